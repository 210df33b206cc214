package tests

import (
	"math"
	"testing"

	"loop.example/g01178/impl"
)

// Single patterns that the tests below name.
const (
	singleMinus    = 1 << 31
	singleUnit     = 1
	singleNormal   = 1 << 23
	singleGreatest = 0x7f7fffff
	singleInfinite = 0x7f800000
	singleQuiet    = 2143289344
)

func singleFor(x float64) int {
	if math.IsNaN(x) {
		return singleQuiet
	}
	return int(math.Float32bits(float32(x)))
}

// singlesFor has both signs of single patterns at, right below and right above
// the values and midpoints of a format, of those of all kinds, and of some that
// are strewn over all others.
func singlesFor(f impl.Format) []int {
	r := rulers()[f]
	list := []int{
		0, singleUnit, 2, 3, singleNormal - 1, singleNormal, singleNormal + 1, singleGreatest - 1, singleGreatest,
		singleInfinite, singleInfinite + 1, singleInfinite + 1<<22 - 1, singleQuiet, singleQuiet + 1, singleMinus - 1,
	}
	for _, p := range patternsFor(f) {
		if p >= len(r.sizes)-1 {
			break
		}
		for _, x := range []float64{r.sizes[p], (r.sizes[p] + r.sizes[p+1]) / 2} {
			s := singleFor(x)
			list = append(list, max(s-1, 0), s, s+1)
		}
	}
	for s := 0; s < singleMinus; s += 3_333_337 {
		list = append(list, s)
	}
	both := list
	for _, s := range list {
		both = append(both, s+singleMinus)
	}
	return both
}

func TestSingleOf(t *testing.T) {
	for _, f := range allFormats() {
		for _, p := range allPatterns(f) {
			got, ok := impl.SingleOf(f, p)
			wantInt(t, "SingleOf", f, p, got, ok, singleFor(rulers()[f].values[p]))
		}
	}
}

func TestFromSingle(t *testing.T) {
	for _, f := range allFormats() {
		for _, s := range singlesFor(f) {
			x := float64(math.Float32frombits(uint32(s)))
			for _, mode := range modes {
				got, ok := impl.FromSingle(f, s, mode)
				wantResult(t, "FromSingle", f, mode, got, ok, rulers()[f].float(x, mode), s)
			}
		}
	}
}

// TestSinglesLoseNothing: single precision holds all formats.
func TestSinglesLoseNothing(t *testing.T) {
	for _, f := range allFormats() {
		for _, p := range allPatterns(f) {
			single, _ := impl.SingleOf(f, p)
			for _, mode := range []int{impl.ModeEven, impl.ModeUp, impl.ModeOdd} {
				got, ok := impl.FromSingle(f, single, mode)
				wantResult(t, "FromSingle of SingleOf", f, mode, got, ok, kept(f, p), p)
			}
		}
	}
}

func TestSingleOfAtEdges(t *testing.T) {
	for _, c := range []struct{ p, want int }{
		{plusZero, 0},
		{minusZero, singleMinus},
		{one, 1065353216},
		{minusOne, 1065353216 + singleMinus},
		// The unit, 2^-9, is subnormal in the format, but no single one is.
		{unit, 118 << 23},
		{minusUnit, 118<<23 + singleMinus},
		{3, 119<<23 + 1<<22},
		{eighteen, 131<<23 + 1<<20},
		{greatest, 134<<23 + 7<<20},
		{infinite, singleInfinite},
		{minusInfinite, singleInfinite + singleMinus},
		{noNumber, singleQuiet},
		{quiet, singleQuiet},
		{252, singleQuiet},
		{minusNoNumber, singleQuiet},
	} {
		got, ok := impl.SingleOf(example, c.p)
		wantInt(t, "SingleOf", example, c.p, got, ok, c.want)
	}
}

func TestFromSingleAtEdges(t *testing.T) {
	beyond := byMode{infinite, infinite, greatest, infinite, greatest, greatest}
	minusBeyond := byMode{minusInfinite, minusInfinite, minusGreatest, minusGreatest, minusInfinite, minusGreatest}
	for _, c := range []struct {
		s    int
		want byMode
	}{
		{0, always(plusZero)},
		{singleMinus, always(minusZero)},
		{1065353216, always(one)},
		{1065353216 + singleMinus, always(minusOne)},
		{singleUnit, tinyByMode},
		{singleUnit + singleMinus, minusTinyByMode},
		{singleNormal - 1, tinyByMode},
		{singleNormal - 1 + singleMinus, minusTinyByMode},
		{singleNormal, tinyByMode},
		// 2^-10, half of the unit, and right above it.
		{117 << 23, byMode{plusZero, unit, plusZero, unit, plusZero, unit}},
		{117<<23 + 1, byMode{unit, unit, plusZero, unit, plusZero, unit}},
		{118 << 23, always(unit)},
		// 17, and right beside it.
		{131<<23 + 1<<19 - 1, byMode{sixteen, sixteen, sixteen, eighteen, sixteen, eighteen}},
		{131<<23 + 1<<19, byMode{sixteen, eighteen, sixteen, eighteen, sixteen, eighteen}},
		{131<<23 + 1<<19 + 1, byMode{eighteen, eighteen, sixteen, eighteen, sixteen, eighteen}},
		{131<<23 + 1<<19 + singleMinus, byMode{sixteen + 128, eighteen + 128, sixteen + 128, sixteen + 128, eighteen + 128, eighteen + 128}},
		// 240, right below 248, and 248.
		{134<<23 + 7<<20, always(greatest)},
		{134<<23 + 15<<19 - 1, byMode{greatest, greatest, greatest, infinite, greatest, greatest}},
		{134<<23 + 15<<19, beyond},
		{134<<23 + 15<<19 + singleMinus, minusBeyond},
		{singleGreatest, beyond},
		{singleGreatest + singleMinus, minusBeyond},
		{singleInfinite, always(infinite)},
		{singleInfinite + singleMinus, always(minusInfinite)},
		{singleInfinite + 1, always(quiet)},
		{singleQuiet, always(quiet)},
		{singleQuiet + singleMinus, always(quiet)},
		{impl.MaxSingle, always(quiet)},
	} {
		for i, mode := range modes {
			got, ok := impl.FromSingle(example, c.s, mode)
			wantResult(t, "FromSingle", example, mode, got, ok, c.want[i], c.s)
		}
	}
}
