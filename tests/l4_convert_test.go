package tests

import (
	"math"
	"testing"

	"loop.example/g01178/impl"
)

// wholeNumbers has those near 0, around each power of two, and near the bounds.
func wholeNumbers() []int {
	var list []int
	for n := range 300 {
		list = append(list, n)
	}
	for power := 256; power < impl.MaxWholeNumber; power *= 2 {
		for off := -9; off <= 9; off++ {
			list = append(list, power+off, power+power/2+off, power+power/4*3+off)
		}
		// Ties of formats with many fraction bits, and what is beside them.
		for step := 2; step < power; step *= 2 {
			list = append(list, power+step, power+step-1, power+step+1, power+3*step)
		}
	}
	for n := range 20 {
		list = append(list, impl.MaxWholeNumber-n)
	}
	var both []int
	for _, n := range list {
		if n <= impl.MaxWholeNumber {
			both = append(both, n, -n)
		}
	}
	return both
}

func TestFromWhole(t *testing.T) {
	numbers := wholeNumbers()
	for _, f := range allFormats() {
		r := rulerOf(f)
		for _, n := range numbers {
			for _, mode := range modes {
				got, ok := impl.FromWhole(f, n, mode)
				wantResult(t, "FromWhole", f, mode, got, ok, r.float(float64(n), mode), n)
			}
		}
	}
}

func TestFromWholeAtEdges(t *testing.T) {
	for _, c := range []struct {
		n    int
		want byMode
	}{
		{0, always(plusZero)},
		{1, always(one)},
		{-1, always(minusOne)},
		{3, always(three)},
		{17, byMode{sixteen, eighteen, sixteen, eighteen, sixteen, eighteen}},
		{-17, byMode{sixteen + 128, eighteen + 128, sixteen + 128, sixteen + 128, eighteen + 128, eighteen + 128}},
		{240, always(greatest)},
		{247, byMode{greatest, greatest, greatest, infinite, greatest, greatest}},
		{248, byMode{infinite, infinite, greatest, infinite, greatest, greatest}},
		{impl.MaxWholeNumber, byMode{infinite, infinite, greatest, infinite, greatest, greatest}},
		{-impl.MaxWholeNumber, byMode{minusInfinite, minusInfinite, minusGreatest, minusGreatest, minusInfinite, minusGreatest}},
	} {
		for i, mode := range modes {
			got, ok := impl.FromWhole(example, c.n, mode)
			wantResult(t, "FromWhole", example, mode, got, ok, c.want[i], c.n)
		}
	}
}

func TestFromWholeRequiresItsArguments(t *testing.T) {
	for _, n := range []int{0, 1, -3, impl.MaxWholeNumber} {
		for _, f := range notFormats() {
			got, ok := impl.FromWhole(f, n, impl.ModeEven)
			wantNone(t, "FromWhole", f, n, got, ok)
		}
		for _, mode := range notModes() {
			got, ok := impl.FromWhole(example, n, mode)
			wantNone(t, "FromWhole", example, mode, got, ok)
		}
	}
	for _, f := range allFormats() {
		for _, n := range []int{impl.MaxWholeNumber + 1, -impl.MaxWholeNumber - 1, 1 << 40, math.MinInt, math.MinInt + 1, math.MaxInt} {
			for _, mode := range modes {
				got, ok := impl.FromWhole(f, n, mode)
				wantNone(t, "FromWhole", f, n, got, ok)
			}
		}
	}
}
