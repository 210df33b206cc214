package tests

import (
	"math"
	"math/big"
	"math/rand/v2"
	"slices"
	"testing"

	"loop.example/g01178/impl"
)

// summer makes near sums of values by the document's words, and tells whether
// all of them fit. A float64 has room for all exact sums and products.
type summer struct {
	r    ruler
	fits bool
}

func summerOf(r ruler) *summer {
	return &summer{r, true}
}

func (s *summer) near(x, y float64) float64 {
	value := s.r.values[s.r.float(x+y, impl.ModeEven)]
	if math.IsInf(value, 0) {
		s.fits = false
		return 0
	}
	return value
}

// nearWithError returns the exact error.
func (s *summer) nearWithError(x, y float64) (float64, float64) {
	sum := s.near(x, y)
	return sum, x + y - sum
}

func (s *summer) inOrder(values []float64) float64 {
	sum := 0.0
	for _, x := range values {
		sum = s.near(sum, x)
	}
	return sum
}

// grow leaves out what is 0.
func (s *summer) grow(parts []float64, b float64) []float64 {
	var grown []float64
	for _, part := range parts {
		var e float64
		b, e = s.nearWithError(b, part)
		if e != 0 {
			grown = append(grown, e)
		}
	}
	if b != 0 {
		grown = append(grown, b)
	}
	return grown
}

// patterns returns the patterns with values, if all near sums fit.
func (s *summer) patterns(values ...float64) ([]int, bool) {
	if !s.fits {
		return nil, false
	}
	var list []int
	for _, x := range values {
		list = append(list, s.r.pattern(x))
	}
	return list, true
}

// pattern returns the pattern with a value, the zero with the sign 0, and -1 if
// there is none.
func (r ruler) pattern(x float64) int {
	switch {
	case x == 0:
		return 0
	case !r.has(x):
		return -1
	}
	return r.float(x, impl.ModeEven)
}

func (r ruler) finite(p int) bool {
	return !math.IsNaN(r.values[p]) && !math.IsInf(r.values[p], 0)
}

func (r ruler) valuesOf(patterns []int) []float64 {
	var list []float64
	for _, p := range patterns {
		list = append(list, r.values[p])
	}
	return list
}

// results has the results of a call in a list, and none of a call that fails as
// it should, with zeros.
func results(ok bool, list ...int) ([]int, bool) {
	isZero := !slices.ContainsFunc(list, func(n int) bool { return n != 0 })
	if !ok && isZero {
		return nil, false
	}
	return list, ok
}

func wantResults(t *testing.T, what string, f impl.Format, arguments any, got []int, ok bool, want []int, fine bool) {
	t.Helper()
	if ok != fine || !slices.Equal(got, want) {
		t.Fatalf("%s of %v and %v: got %v, %v, want %v, %v", what, f, arguments, got, ok, want, fine)
	}
}

func dyadicOf(t *testing.T, x float64) impl.Dyadic {
	t.Helper()
	return dyadic(t, new(big.Rat).SetFloat64(x))
}

// ordersOf returns all orders of a list.
func ordersOf(list []float64) [][]float64 {
	if len(list) == 0 {
		return [][]float64{nil}
	}
	var orders [][]float64
	for _, order := range ordersOf(list[1:]) {
		for i := range len(order) + 1 {
			orders = append(orders, slices.Insert(slices.Clone(order), i, list[0]))
		}
	}
	return orders
}

func finitePatterns(f impl.Format) []int {
	r := rulers()[f]
	return slices.DeleteFunc(allPatterns(f), func(p int) bool { return !r.finite(p) })
}

// allLists returns all lists of so many of the patterns.
func allLists(patterns []int, count int) [][]int {
	lists := [][]int{{}}
	for range count {
		var longer [][]int
		for _, list := range lists {
			for _, p := range patterns {
				longer = append(longer, append(slices.Clone(list), p))
			}
		}
		lists = longer
	}
	return lists
}

// someLists returns lists of finite patterns of all lengths, the same ones each
// time. They have sums that fit, sums that do not, and sums that cancel.
func someLists(f impl.Format) [][]int {
	random := rand.New(rand.NewPCG(uint64(f.Exponent), uint64(f.Fraction)))
	half := 1 << (widthOf(f) - 1)
	count := half - 1<<f.Fraction
	var lists [][]int
	for i := range 30 {
		for length := range impl.MaxList + 1 {
			// Sizes up to the greatest ones, to those in the middle, or subnormal ones.
			below := []int{count, count - 2<<f.Fraction, count / 2, 1 << f.Fraction}[i%4]
			list := []int{}
			for range length {
				list = append(list, random.IntN(below)+half*random.IntN(2))
			}
			lists = append(lists, list, withOpposites(half, list))
		}
	}
	return lists
}

// withOpposites has the first half of a list, and then the same again with the
// other signs.
func withOpposites(half int, list []int) []int {
	list = slices.Clone(list[:len(list)/2])
	for _, p := range slices.Clone(list) {
		list = append(list, p^half)
	}
	return list
}
