package tests

import (
	"testing"

	"loop.example/g01178/impl"
)

func TestShortestOf(t *testing.T) {
	for _, f := range allFormats() {
		half := 1 << (widthOf(f) - 1)
		for p, want := range shortests()[f] {
			for _, signed := range []int{p, p + half} {
				digits, ten, ok := impl.ShortestOf(f, signed)
				wantDecimal(t, "ShortestOf", f, []int{signed}, digits, ten, ok, want)
			}
		}
	}
}

func TestLongestShortest(t *testing.T) {
	for _, f := range allFormats() {
		got, ok := impl.LongestShortest(f)
		if widthOf(f) > 10 {
			wantNone(t, "LongestShortest", f, "nothing", got, ok)
			continue
		}
		longest := 1
		for _, d := range shortests()[f] {
			longest = max(longest, d.places())
		}
		wantInt(t, "LongestShortest", f, 0, got, ok, longest)
	}
}

func TestLongestShortestAtEdges(t *testing.T) {
	for f, want := range map[impl.Format]int{
		smallest: 2,
		example:  3,
		// A width of 10.
		{Exponent: 2, Fraction: 7}: 4,
		{Exponent: 3, Fraction: 6}: 3,
		{Exponent: 4, Fraction: 5}: 3,
		{Exponent: 5, Fraction: 4}: 3,
	} {
		got, ok := impl.LongestShortest(f)
		wantInt(t, "LongestShortest", f, 0, got, ok, want)
	}
	for _, f := range []impl.Format{{Exponent: 2, Fraction: 8}, {Exponent: 3, Fraction: 7}, {Exponent: 4, Fraction: 6}, {Exponent: 5, Fraction: 5}, largest} {
		got, ok := impl.LongestShortest(f)
		wantNone(t, "LongestShortest", f, "nothing", got, ok)
	}
}

func TestShortestOfAtEdges(t *testing.T) {
	quarters := impl.Format{Exponent: 2, Fraction: 2}
	wideOneBit := impl.Format{Exponent: 5, Fraction: 1}
	wideFourBits := impl.Format{Exponent: 5, Fraction: 4}
	for _, c := range []struct {
		f     impl.Format
		value float64
		want  decimal
	}{
		{example, 0, decimal{0, 0}},
		{example, 0.001953125, decimal{2, -3}},
		{example, 1, decimal{1, 0}},
		{example, 10, decimal{1, 1}},
		{example, 1.875, decimal{19, -1}},
		// 3 and 4 are as near, but are values themselves.
		{example, 3.5, decimal{35, -1}},
		{example, 240, decimal{24, 1}},
		// The two beside the value are as near, and both are rounded to it.
		{quarters, 0.25, decimal{2, -1}},
		{quarters, 0.75, decimal{7, -1}},
		{quarters, 1.25, decimal{12, -1}},
		{quarters, 3.5, decimal{35, -1}},
		{example, 1.75, decimal{17, -1}},
		{example, 0.375, decimal{37, -2}},
		// Next to a power of two, the value below is nearer than that behind: 0.12 and
		// 0.13 are as near, but 0.12 is rounded to that below.
		{example, 0.125, decimal{13, -2}},
		{oneBit, 0.25, decimal{3, -1}},
		// Here what is rounded to the value below is nearer: 2e-4, and 24e-5.
		{wideOneBit, 1.0 / (1 << 12), decimal{3, -4}},
		{wideFourBits, 1.0 / (1 << 12), decimal{25, -5}},
		{smallest, 0.5, decimal{5, -1}},
		{smallest, 1, decimal{1, 0}},
		{smallest, 1.5, decimal{15, -1}},
		{smallest, 3, decimal{3, 0}},
		{largest, 1.0 / (1 << 24), decimal{6, -8}},
		{largest, 65504, decimal{655, 2}},
		{largest, 1.0009765625, decimal{1001, -3}},
	} {
		p := finiteWith(c.f, c.value)
		for _, signed := range []int{p, p + 1<<(widthOf(c.f)-1)} {
			digits, ten, ok := impl.ShortestOf(c.f, signed)
			wantDecimal(t, "ShortestOf", c.f, []int{signed}, digits, ten, ok, c.want)
		}
	}
}
