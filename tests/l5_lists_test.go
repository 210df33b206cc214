package tests

import (
	"cmp"
	"math"
	"slices"
	"testing"

	"loop.example/g01178/impl"
)

// maxOrdered is how many patterns SpreadOfOrders takes.
const maxOrdered = 5

// sumsOfLists are all functions of chapter 5 that take a list, and what the
// document tells of their results for values. GrowExpansion takes the first one
// of a list as b.
var sumsOfLists = []struct {
	what string
	most int
	call func(f impl.Format, list []int) ([]int, bool)
	want func(t *testing.T, r ruler, values []float64) ([]int, bool)
}{
	{"SumInOrder", impl.MaxList, ofList(impl.SumInOrder), func(t *testing.T, r ruler, values []float64) ([]int, bool) {
		s := summerOf(r)
		return s.patterns(s.inOrder(values))
	}},
	{"ExactSum", impl.MaxList, func(f impl.Format, list []int) ([]int, bool) {
		d, ok := impl.ExactSum(f, list)
		return results(ok, d.Num, d.Exp)
	}, func(t *testing.T, r ruler, values []float64) ([]int, bool) {
		d := dyadicOf(t, sumOf(values))
		return []int{d.Num, d.Exp}, true
	}},
	{"RoundedSum", impl.MaxList, ofList(impl.RoundedSum), func(t *testing.T, r ruler, values []float64) ([]int, bool) {
		s := summerOf(r)
		return s.patterns(s.near(sumOf(values), 0))
	}},
	{"CompensatedSum", impl.MaxList, ofList(impl.CompensatedSum), wantCompensatedSum},
	{"GrowExpansion", impl.MaxList + 1, growByFirst, func(t *testing.T, r ruler, values []float64) ([]int, bool) {
		if len(values) == 0 {
			return nil, false
		}
		s := summerOf(r)
		return s.patterns(s.grow(values[1:], values[0])...)
	}},
	{"ExpansionOf", impl.MaxList, impl.ExpansionOf, func(t *testing.T, r ruler, values []float64) ([]int, bool) {
		s := summerOf(r)
		var parts []float64
		for _, x := range values {
			parts = s.grow(parts, x)
		}
		return s.patterns(parts...)
	}},
	{"SignOfSum", impl.MaxList, ofList(impl.SignOfSum), func(t *testing.T, r ruler, values []float64) ([]int, bool) {
		return []int{cmp.Compare(sumOf(values), 0)}, true
	}},
	{"SpreadOfOrders", maxOrdered, func(f impl.Format, list []int) ([]int, bool) {
		least, greatest, ok := impl.SpreadOfOrders(f, list)
		return results(ok, least, greatest)
	}, wantSpreadOfOrders},
}

func ofList(call func(impl.Format, []int) (int, bool)) func(impl.Format, []int) ([]int, bool) {
	return func(f impl.Format, list []int) ([]int, bool) {
		n, ok := call(f, list)
		return results(ok, n)
	}
}

func growByFirst(f impl.Format, list []int) ([]int, bool) {
	if len(list) == 0 {
		return nil, false
	}
	return impl.GrowExpansion(f, list[1:], list[0])
}

// sumOf is exact.
func sumOf(values []float64) float64 {
	sum := 0.0
	for _, x := range values {
		sum += x
	}
	return sum
}

func wantCompensatedSum(t *testing.T, r ruler, values []float64) ([]int, bool) {
	sums := summerOf(r)
	s, e, c := 0.0, 0.0, 0.0
	for _, x := range values {
		s, e = sums.nearWithError(s, x)
		c = sums.near(c, e)
	}
	return sums.patterns(sums.near(s, c))
}

func wantSpreadOfOrders(t *testing.T, r ruler, values []float64) ([]int, bool) {
	s := summerOf(r)
	least, greatest := math.Inf(1), math.Inf(-1)
	for _, order := range ordersOf(values) {
		sum := s.inOrder(order)
		least, greatest = min(least, sum), max(greatest, sum)
	}
	return s.patterns(least, greatest)
}

func checkSumsOf(t *testing.T, f impl.Format, list []int) {
	t.Helper()
	r := rulers()[f]
	for _, c := range sumsOfLists {
		if len(list) > c.most {
			continue
		}
		got, ok := c.call(f, list)
		want, fine := c.want(t, r, r.valuesOf(list))
		wantResults(t, c.what, f, list, got, ok, want, fine)
	}
}

// listFormats are those of which a test looks at all short lists.
var listFormats = map[impl.Format]int{
	smallest:                   4,
	{Exponent: 2, Fraction: 2}: 3,
	{Exponent: 3, Fraction: 1}: 3,
}

func TestSumsOfLists(t *testing.T) {
	for _, f := range allFormats() {
		for _, list := range someLists(f) {
			checkSumsOf(t, f, list)
		}
	}
	for f, most := range listFormats {
		for count := range most + 1 {
			for _, list := range allLists(finitePatterns(f), count) {
				checkSumsOf(t, f, list)
			}
		}
	}
}

// TestExpansionsKeepSums: the exact sum of an expansion is that of its list, and
// with a Fraction of at least 2 the last part has its sign.
func TestExpansionsKeepSums(t *testing.T) {
	for _, f := range allFormats() {
		for _, list := range someLists(f) {
			parts, ok := impl.ExpansionOf(f, list)
			if !ok {
				continue
			}
			sum, _ := impl.ExactSum(f, list)
			kept, ok := impl.ExactSum(f, parts)
			if !ok || kept != sum {
				t.Fatalf("ExpansionOf of %v and %v: got %v with the sum %v, %v, want %v", f, list, parts, kept, ok, sum)
			}
			sign, ok := impl.SignOfSum(f, list)
			if !ok || f.Fraction >= 2 && sign != signOfLast(f, parts) {
				t.Fatalf("SignOfSum of %v and %v: got %d, %v, and the expansion %v", f, list, sign, ok, parts)
			}
		}
	}
}

func signOfLast(f impl.Format, parts []int) int {
	if len(parts) == 0 {
		return 0
	}
	return cmp.Compare(rulers()[f].values[parts[len(parts)-1]], 0)
}

// TestGrownPartsKeepSums: the same of one step.
func TestGrownPartsKeepSums(t *testing.T) {
	for _, f := range allFormats() {
		r := rulers()[f]
		for _, list := range someLists(f) {
			if grown, ok := growByFirst(f, list); ok && sumOf(r.valuesOf(grown)) != sumOf(r.valuesOf(list)) {
				t.Fatalf("GrowExpansion of %v and %v: got %v", f, list, grown)
			}
		}
	}
}

// TestSpreadHasAllOrders: no sum of a list in any order is outside of its
// spread, and the spread is the same for all orders.
func TestSpreadHasAllOrders(t *testing.T) {
	for _, f := range allFormats() {
		for _, list := range someLists(f) {
			least, greatest, ok := impl.SpreadOfOrders(f, list)
			if !ok {
				continue
			}
			slices.Reverse(list)
			low, high, ok := impl.SpreadOfOrders(f, list)
			if !ok || low != least || high != greatest {
				t.Fatalf("SpreadOfOrders of %v and %v: got %d, %d, %v, and the other way round %d, %d", f, list, low, high, ok, least, greatest)
			}
			sum, ok := impl.SumInOrder(f, list)
			values := rulers()[f].values
			if !ok || values[sum] < values[least] || values[sum] > values[greatest] {
				t.Fatalf("SumInOrder of %v and %v: got %d, %v, not from %d to %d", f, list, sum, ok, least, greatest)
			}
		}
	}
}
