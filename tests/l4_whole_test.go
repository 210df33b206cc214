package tests

import (
	"math"
	"testing"

	"loop.example/g01178/impl"
)

// wholeNumbers has those near 0, around each power of two, and near the bounds.
func wholeNumbers() []int {
	var list []int
	for n := range 300 {
		list = append(list, n)
	}
	for power := 256; power < impl.MaxWholeNumber; power *= 2 {
		for off := -9; off <= 9; off++ {
			list = append(list, power+off, power+power/2+off, power+power/4*3+off)
		}
		// Ties of formats with many fraction bits, and what is beside them.
		for step := 2; step < power; step *= 2 {
			list = append(list, power+step, power+step-1, power+step+1, power+3*step)
		}
	}
	for n := range 20 {
		list = append(list, impl.MaxWholeNumber-n)
	}
	var both []int
	for _, n := range list {
		if n <= impl.MaxWholeNumber {
			both = append(both, n, -n)
		}
	}
	return both
}

func TestFromWhole(t *testing.T) {
	numbers := wholeNumbers()
	for _, f := range allFormats() {
		r := rulerOf(f)
		for _, n := range numbers {
			for _, mode := range modes {
				got, ok := impl.FromWhole(f, n, mode)
				wantResult(t, "FromWhole", f, mode, got, ok, r.float(float64(n), mode), n)
			}
		}
	}
}

func TestFromWholeAtEdges(t *testing.T) {
	for _, c := range []struct {
		n    int
		want byMode
	}{
		{0, always(plusZero)},
		{1, always(one)},
		{-1, always(minusOne)},
		{3, always(three)},
		{17, byMode{sixteen, eighteen, sixteen, eighteen, sixteen, eighteen}},
		{-17, byMode{sixteen + 128, eighteen + 128, sixteen + 128, sixteen + 128, eighteen + 128, eighteen + 128}},
		{240, always(greatest)},
		{247, byMode{greatest, greatest, greatest, infinite, greatest, greatest}},
		{248, byMode{infinite, infinite, greatest, infinite, greatest, greatest}},
		{impl.MaxWholeNumber, byMode{infinite, infinite, greatest, infinite, greatest, greatest}},
		{-impl.MaxWholeNumber, byMode{minusInfinite, minusInfinite, minusGreatest, minusGreatest, minusInfinite, minusGreatest}},
	} {
		for i, mode := range modes {
			got, ok := impl.FromWhole(example, c.n, mode)
			wantResult(t, "FromWhole", example, mode, got, ok, c.want[i], c.n)
		}
	}
}

func TestToWhole(t *testing.T) {
	for _, f := range allFormats() {
		for _, p := range allPatterns(f) {
			x := rulers()[f].values[p]
			for _, mode := range modes {
				got, ok := impl.ToWhole(f, p, mode)
				if math.IsNaN(x) || math.IsInf(x, 0) {
					wantNone(t, "ToWhole", f, p, got, ok)
					continue
				}
				wantResult(t, "ToWhole", f, mode, got, ok, int(wholeOf(x, mode)), p)
			}
		}
	}
}

// TestToWholeIsWholeOf: what it returns becomes WholeOf, but for signs of zeros.
func TestToWholeIsWholeOf(t *testing.T) {
	for _, f := range allFormats() {
		for _, p := range patternsFor(f) {
			for _, mode := range modes {
				n, ok := impl.ToWhole(f, p, mode)
				if !ok || n == 0 {
					continue
				}
				want, _ := impl.WholeOf(f, p, mode)
				got, ok := impl.FromWhole(f, n, mode)
				wantResult(t, "FromWhole of ToWhole", f, mode, got, ok, want, p)
			}
		}
	}
}

func TestToWholeAtEdges(t *testing.T) {
	for _, c := range []struct {
		p    int
		want byMode
	}{
		{plusZero, always(0)},
		{minusZero, always(0)},
		{one, always(1)},
		{minusOne, always(-1)},
		{eighteen, always(18)},
		{greatest, always(240)},
		{minusGreatest, always(-240)},
		// Less than 1: the unit, 1 / 2 and both values beside it, and 15 / 16.
		{unit, byMode{0, 0, 0, 1, 0, 1}},
		{minusUnit, byMode{0, 0, 0, 0, -1, -1}},
		{47, byMode{0, 0, 0, 1, 0, 1}},
		{48, byMode{0, 1, 0, 1, 0, 1}},
		{176, byMode{0, -1, 0, 0, -1, -1}},
		{49, byMode{1, 1, 0, 1, 0, 1}},
		{177, byMode{-1, -1, 0, 0, -1, -1}},
		{55, byMode{1, 1, 0, 1, 0, 1}},
		{183, byMode{-1, -1, 0, 0, -1, -1}},
		// 3 / 2 and 5 / 2.
		{60, byMode{2, 2, 1, 2, 1, 1}},
		{188, byMode{-2, -2, -1, -1, -2, -1}},
		{66, byMode{2, 3, 2, 3, 2, 3}},
		{194, byMode{-2, -3, -2, -2, -3, -3}},
	} {
		for i, mode := range modes {
			got, ok := impl.ToWhole(example, c.p, mode)
			wantResult(t, "ToWhole", example, mode, got, ok, c.want[i], c.p)
		}
	}
	for _, p := range []int{infinite, minusInfinite, noNumber, quiet, minusNoNumber} {
		for _, mode := range modes {
			got, ok := impl.ToWhole(example, p, mode)
			wantNone(t, "ToWhole", example, p, got, ok)
		}
	}
}

// TestToWholeBehindTheGreatest: 3.5 becomes 4, which has no pattern in the
// format with 2 and 2, where 3.5 is the greatest value.
func TestToWholeBehindTheGreatest(t *testing.T) {
	f := impl.Format{Exponent: 2, Fraction: 2}
	for i, mode := range modes {
		got, ok := impl.ToWhole(f, 11, mode)
		wantResult(t, "ToWhole", f, mode, got, ok, [6]int{4, 4, 3, 4, 3, 3}[i], 11)
		got, ok = impl.ToWhole(f, 27, mode)
		wantResult(t, "ToWhole", f, mode, got, ok, [6]int{-4, -4, -3, -3, -4, -3}[i], 27)
	}
}
