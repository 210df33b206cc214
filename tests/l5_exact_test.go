package tests

import (
	"math"
	"testing"

	"loop.example/g01178/impl"
)

// stepsOfTwo are all functions of chapter 5 that take two patterns, and what the
// document tells of their results for values.
var stepsOfTwo = []struct {
	what string
	call func(f impl.Format, a, b int) ([]int, bool)
	want func(r ruler, x, y float64) ([]int, bool)
}{
	{"NearSum", func(f impl.Format, a, b int) ([]int, bool) {
		p, ok := impl.NearSum(f, a, b)
		return results(ok, p)
	}, func(r ruler, x, y float64) ([]int, bool) {
		s := summerOf(r)
		return s.patterns(s.near(x, y))
	}},
	{"TwoSum", func(f impl.Format, a, b int) ([]int, bool) {
		p, e, ok := impl.TwoSum(f, a, b)
		return results(ok, p, e)
	}, func(r ruler, x, y float64) ([]int, bool) {
		s := summerOf(r)
		sum, e := s.nearWithError(x, y)
		return s.patterns(sum, e)
	}},
	{"SixSteps", impl.SixSteps, wantSixSteps},
	{"QuickTwoSum", func(f impl.Format, a, b int) ([]int, bool) {
		p, e, ok := impl.QuickTwoSum(f, a, b)
		return results(ok, p, e)
	}, func(r ruler, x, y float64) ([]int, bool) {
		if math.Abs(x) < math.Abs(y) {
			return nil, false
		}
		s := summerOf(r)
		sum := s.near(x, y)
		return s.patterns(sum, s.near(y, s.near(x, -sum)))
	}},
	{"TwoProduct", func(f impl.Format, a, b int) ([]int, bool) {
		p, e, ok := impl.TwoProduct(f, a, b)
		return results(ok, p, e)
	}, wantTwoProduct},
	{"IsNear", func(f impl.Format, a, b int) ([]int, bool) {
		is, ok := impl.IsNear(f, a, b)
		return results(ok, oneIf(is))
	}, func(r ruler, x, y float64) ([]int, bool) {
		return []int{oneIf(x > 0 && y > 0 && x <= 2*y && y <= 2*x)}, true
	}},
	{"IsExactDifference", func(f impl.Format, a, b int) ([]int, bool) {
		is, ok := impl.IsExactDifference(f, a, b)
		return results(ok, oneIf(is))
	}, func(r ruler, x, y float64) ([]int, bool) {
		return []int{oneIf(r.has(x - y))}, true
	}},
}

func wantSixSteps(r ruler, a, b float64) ([]int, bool) {
	sums := summerOf(r)
	s := sums.near(a, b)
	t := sums.near(s, -a)
	u := sums.near(s, -t)
	v := sums.near(a, -u)
	w := sums.near(b, -t)
	e := sums.near(v, w)
	return sums.patterns(s, t, u, v, w, e)
}

func wantTwoProduct(r ruler, x, y float64) ([]int, bool) {
	p := r.values[r.float(x*y, impl.ModeEven)]
	unit := r.sizes[1]
	isWhole := math.Trunc((x*y-p)/unit) == (x*y-p)/unit
	if math.IsInf(p, 0) || !isWhole {
		return nil, false
	}
	return summerOf(r).patterns(p, x*y-p)
}

func TestStepsOfTwo(t *testing.T) {
	forPairs(t, func(t *testing.T, r ruler, a, b int) {
		for _, c := range stepsOfTwo {
			got, ok := c.call(r.f, a, b)
			if !r.finite(a) || !r.finite(b) {
				wantResults(t, c.what, r.f, []int{a, b}, got, ok, nil, false)
				continue
			}
			want, fine := c.want(r, r.values[a], r.values[b])
			wantResults(t, c.what, r.f, []int{a, b}, got, ok, want, fine)
		}
	})
}

// TestStepsAgree: with a Fraction of at least 2 the error is the last one of the
// six steps, and that of QuickTwoSum; and it is exact, whatever the Fraction is.
func TestStepsAgree(t *testing.T) {
	forPairs(t, func(t *testing.T, r ruler, a, b int) {
		s, e, ok := impl.TwoSum(r.f, a, b)
		if !ok {
			return
		}
		if r.values[s]+r.values[e] != r.values[a]+r.values[b] {
			t.Fatalf("TwoSum of %v, %d and %d: got %d, %d", r.f, a, b, s, e)
		}
		if r.f.Fraction < 2 {
			return
		}
		if six, ok := impl.SixSteps(r.f, a, b); ok && (six[0] != s || six[5] != e) {
			t.Fatalf("SixSteps of %v, %d and %d: got %v, and TwoSum %d, %d", r.f, a, b, six, s, e)
		}
		if sum, quick, ok := impl.QuickTwoSum(r.f, a, b); ok && (sum != s || quick != e) {
			t.Fatalf("QuickTwoSum of %v, %d and %d: got %d, %d, and TwoSum %d, %d", r.f, a, b, sum, quick, s, e)
		}
	})
}

// TestProductsHaveTheirErrors: both results together are the product.
func TestProductsHaveTheirErrors(t *testing.T) {
	forPairs(t, func(t *testing.T, r ruler, a, b int) {
		p, e, ok := impl.TwoProduct(r.f, a, b)
		if ok && r.values[p]+r.values[e] != r.values[a]*r.values[b] {
			t.Fatalf("TwoProduct of %v, %d and %d: got %d, %d", r.f, a, b, p, e)
		}
	})
}

func TestNearOnesHaveExactDifferences(t *testing.T) {
	near := 0
	forPairs(t, func(t *testing.T, r ruler, a, b int) {
		if is, _ := impl.IsNear(r.f, a, b); !is {
			return
		}
		near++
		if exact, ok := impl.IsExactDifference(r.f, a, b); !ok || !exact {
			t.Fatalf("IsExactDifference of %v, %d and %d: got %v, %v", r.f, a, b, exact, ok)
		}
	})
	if near == 0 {
		t.Error("no pair is near")
	}
}

// TestWideSums has the sums of all patterns and some great ones in the format
// with the most places: a float32 has no room for some of these sums, which are
// rounded once all the same, and have exact errors.
func TestWideSums(t *testing.T) {
	r := rulers()[largest]
	for _, a := range []int{15 << 10, 15<<10 | 1, 15<<10 | 1022, 30 << 10, 30<<10 | 1022, 31<<10 - 2} {
		for p := range 31 << 10 {
			for _, b := range []int{p, p | 1<<15} {
				checkSumOf(t, r, a, b)
				checkSumOf(t, r, b, a)
			}
		}
	}
}

func checkSumOf(t *testing.T, r ruler, a, b int) {
	t.Helper()
	s := summerOf(r)
	sum, e := s.nearWithError(r.values[a], r.values[b])
	want, fine := s.patterns(sum, e)
	first, second, ok := impl.TwoSum(r.f, a, b)
	got, ok := results(ok, first, second)
	wantResults(t, "TwoSum", r.f, []int{a, b}, got, ok, want, fine)
}
