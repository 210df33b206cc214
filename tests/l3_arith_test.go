package tests

import (
	"cmp"
	"math"
	"slices"
	"strings"
	"testing"

	"loop.example/g01178/impl"
)

// forPairs calls check for pairs of patterns of all formats.
func forPairs(t *testing.T, check func(t *testing.T, r ruler, a, b int)) {
	t.Helper()
	for _, f := range allFormats() {
		r := rulerOf(f)
		list := patternsFor(f)
		for _, a := range list {
			for _, b := range list {
				check(t, r, a, b)
			}
		}
	}
}

func TestQuietOf(t *testing.T) {
	for _, f := range allFormats() {
		got, ok := impl.QuietOf(f)
		wantInt(t, "QuietOf", f, 0, got, ok, quietOf(f))
		text, ok := impl.PatternText(f, got)
		want := "0." + strings.Repeat("1", f.Exponent) + ".1" + strings.Repeat("0", f.Fraction-1)
		if text != want || !ok {
			t.Errorf("QuietOf of %v is %s, want %s", f, text, want)
		}
	}
}

func TestPlusOfAndLessOf(t *testing.T) {
	forPairs(t, func(t *testing.T, r ruler, a, b int) {
		x, y := r.values[a], r.values[b]
		for _, mode := range modes {
			got, ok := impl.PlusOf(r.f, a, b, mode)
			wantResult(t, "PlusOf", r.f, mode, got, ok, r.plus(x, y, mode), a, b)
			got, ok = impl.LessOf(r.f, a, b, mode)
			wantResult(t, "LessOf", r.f, mode, got, ok, r.plus(x, -y, mode), a, b)
		}
	})
}

func TestTimesOfAndDivideOf(t *testing.T) {
	forPairs(t, func(t *testing.T, r ruler, a, b int) {
		x, y := r.values[a], r.values[b]
		for _, mode := range modes {
			got, ok := impl.TimesOf(r.f, a, b, mode)
			wantResult(t, "TimesOf", r.f, mode, got, ok, r.times(x, y, mode), a, b)
			got, ok = impl.DivideOf(r.f, a, b, mode)
			wantResult(t, "DivideOf", r.f, mode, got, ok, r.over(x, y, mode), a, b)
		}
	})
}

func TestRootOf(t *testing.T) {
	for _, f := range allFormats() {
		r := rulerOf(f)
		for _, a := range allPatterns(f) {
			for _, mode := range modes {
				got, ok := impl.RootOf(f, a, mode)
				wantResult(t, "RootOf", f, mode, got, ok, r.root(r.values[a], mode), a)
			}
		}
	}
}

func TestFusedOf(t *testing.T) {
	for _, f := range allFormats() {
		r := rulerOf(f)
		list := fewPatterns(f)
		if widthOf(f) <= 5 {
			list = allPatterns(f)
		}
		for _, a := range list {
			for _, b := range list {
				for _, c := range list {
					checkFused(t, r, a, b, c)
				}
			}
		}
	}
}

func checkFused(t *testing.T, r ruler, a, b, c int) {
	t.Helper()
	for _, mode := range modes {
		got, ok := impl.FusedOf(r.f, a, b, c, mode)
		wantResult(t, "FusedOf", r.f, mode, got, ok, r.fused(r.values[a], r.values[b], r.values[c], mode), a, b, c)
	}
}

// TestFusedOfNearTies has products that are ties alone and are not any more
// with the least of summands, and values that the least of products moves.
func TestFusedOfNearTies(t *testing.T) {
	for _, f := range allFormats() {
		r := rulerOf(f)
		half := r.signBit()
		step := 1 << f.Fraction
		oneAndHalf := half/2 - step + step/2
		small := []int{0, 1, 2, half, half + 1, half + 2}
		for _, p := range somePatterns(f) {
			for _, s := range small {
				checkFused(t, r, p, oneAndHalf, s)
				checkFused(t, r, 1, s, p)
				checkFused(t, r, 3, s, p)
				checkFused(t, r, s, half/2-2*step+1, p)
			}
		}
	}
}

// TestFusedOfRoundsOnce has a product that PlusOf sees only rounded.
func TestFusedOfRoundsOnce(t *testing.T) {
	// 1.125 times 1.125 less 1.25 is 1 / 64.
	got, ok := impl.FusedOf(example, 57, 57, 186, impl.ModeEven)
	wantResult(t, "FusedOf", example, impl.ModeEven, got, ok, 8, 57, 57, 186)
	product, _ := impl.TimesOf(example, 57, 57, impl.ModeEven)
	twice, ok := impl.PlusOf(example, product, 186, impl.ModeEven)
	wantResult(t, "PlusOf", example, impl.ModeEven, twice, ok, 0, product, 186)
}

func TestRemainderOf(t *testing.T) {
	forPairs(t, func(t *testing.T, r ruler, a, b int) {
		x, y := r.values[a], r.values[b]
		left := math.Remainder(x, y)
		if left == 0 {
			left = math.Copysign(0, x)
		}
		got, ok := impl.RemainderOf(r.f, a, b)
		want, isSpecial := r.special(left)
		if !isSpecial {
			want = slices.Index(r.values, left)
		}
		wantResult(t, "RemainderOf", r.f, impl.ModeEven, got, ok, want, a, b)
	})
}

// TestRemainderOfIsWhole: a less the remainder is a whole number of b, and the
// remainder at most half of b, just that only for an even number.
func TestRemainderOfIsWhole(t *testing.T) {
	forPairs(t, func(t *testing.T, r ruler, a, b int) {
		x, y := r.values[a], r.values[b]
		if math.IsNaN(x/y) || math.IsInf(x, 0) || math.IsInf(y, 0) || y == 0 {
			return
		}
		p, _ := impl.RemainderOf(r.f, a, b)
		left := r.values[p]
		if math.Mod(x-left, y) != 0 || 2*math.Abs(left) > math.Abs(y) {
			t.Fatalf("RemainderOf of %v, %d and %d: got %d", r.f, a, b, p)
		}
		if 2*math.Abs(left) == math.Abs(y) && math.Mod(x-left, 2*y) != 0 {
			t.Fatalf("RemainderOf of %v, %d and %d: got %d, which is no tie to an even number", r.f, a, b, p)
		}
	})
}

func TestWholeOf(t *testing.T) {
	for _, f := range allFormats() {
		r := rulerOf(f)
		for _, a := range allPatterns(f) {
			for _, mode := range modes {
				got, ok := impl.WholeOf(f, a, mode)
				wantResult(t, "WholeOf", f, mode, got, ok, r.float(wholeOf(r.values[a], mode), mode), a)
			}
		}
	}
}

func TestScaleOf(t *testing.T) {
	for _, f := range allFormats() {
		r := rulerOf(f)
		for _, a := range patternsFor(f) {
			for k := -impl.MaxScale; k <= impl.MaxScale; k++ {
				for _, mode := range modes {
					got, ok := impl.ScaleOf(f, a, k, mode)
					wantResult(t, "ScaleOf", f, mode, got, ok, r.float(math.Ldexp(r.values[a], k), mode), a, k)
				}
			}
		}
	}
}

func TestScaleOfRequiresK(t *testing.T) {
	for _, f := range allFormats() {
		for _, k := range []int{-61, 61, -64, 64, 1 << 20, math.MinInt, math.MinInt + 1, math.MaxInt} {
			for _, p := range fewPatterns(f) {
				got, ok := impl.ScaleOf(f, p, k, impl.ModeEven)
				wantNone(t, "ScaleOf", f, k, got, ok)
			}
		}
	}
}

func TestMinOfAndMaxOf(t *testing.T) {
	forPairs(t, func(t *testing.T, r ruler, a, b int) {
		least, greatest := minAndMax(r, a, b)
		got, ok := impl.MinOf(r.f, a, b)
		wantResult(t, "MinOf", r.f, 0, got, ok, least, a, b)
		got, ok = impl.MaxOf(r.f, a, b)
		wantResult(t, "MaxOf", r.f, 0, got, ok, greatest, a, b)
	})
}

func minAndMax(r ruler, a, b int) (int, int) {
	x, y := r.values[a], r.values[b]
	if math.IsNaN(x) {
		a, x = b, y
	}
	if math.IsNaN(y) {
		b, y = a, x
	}
	if math.IsNaN(x) {
		return quietOf(r.f), quietOf(r.f)
	}
	if order := cmp.Compare(x, y); order > 0 || order == 0 && signOf(x) < signOf(y) {
		a, b = b, a
	}
	return a, b
}

func TestExactPlusAndExactTimes(t *testing.T) {
	forPairs(t, func(t *testing.T, r ruler, a, b int) {
		x, y := r.values[a], r.values[b]
		sum, ok := impl.ExactPlus(r.f, a, b)
		product, fine := impl.ExactTimes(r.f, a, b)
		if math.IsNaN(x+y) || math.IsInf(x, 0) || math.IsInf(y, 0) {
			if sum || ok || product || fine {
				t.Fatalf("ExactPlus and ExactTimes of %v, %d and %d succeed", r.f, a, b)
			}
			return
		}
		if !ok || sum != r.has(x+y) {
			t.Fatalf("ExactPlus of %v, %d and %d: got %v, %v", r.f, a, b, sum, ok)
		}
		if !fine || product != r.has(x*y) {
			t.Fatalf("ExactTimes of %v, %d and %d: got %v, %v", r.f, a, b, product, fine)
		}
	})
}

// has tells whether a finite pattern has the value x.
func (r ruler) has(x float64) bool {
	_, is := slices.BinarySearch(r.sizes[:len(r.sizes)-1], math.Abs(x))
	return is
}
