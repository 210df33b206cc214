package tests

import (
	"math"
	"strconv"
	"testing"

	"loop.example/g01178/impl"
)

// What a function of chapter 6 takes for a pattern.
const (
	takesNone = iota
	takesAny
	takesFinite
)

// textArguments has all that a function of chapter 6 may take beside a format:
// each one takes what it has use for.
type textArguments struct {
	p            int
	d            decimal
	mode, places int
}

// texts are all functions of chapter 6 but ParseShort. They return their results
// but the last one as a text, "" for those that are zero.
var texts = []struct {
	what       string
	pattern    int
	hasDecimal bool
	hasMode    bool
	hasPlaces  bool
	call       func(f impl.Format, x textArguments) (string, bool)
}{
	{what: "ExactText", pattern: takesFinite, call: func(f impl.Format, x textArguments) (string, bool) {
		return impl.ExactText(f, x.p)
	}},
	{what: "PlacesOf", pattern: takesFinite, call: func(f impl.Format, x textArguments) (string, bool) {
		n, ok := impl.PlacesOf(f, x.p)
		return zeroAsEmpty(n), ok
	}},
	{what: "ReadDecimal", hasDecimal: true, hasMode: true, call: func(f impl.Format, x textArguments) (string, bool) {
		p, ok := impl.ReadDecimal(f, x.d.digits, x.d.ten, x.mode)
		return zeroAsEmpty(p), ok
	}},
	{what: "ShortestOf", pattern: takesFinite, call: func(f impl.Format, x textArguments) (string, bool) {
		digits, ten, ok := impl.ShortestOf(f, x.p)
		return zeroAsEmpty(digits, ten), ok
	}},
	{what: "ShortestText", pattern: takesAny, call: func(f impl.Format, x textArguments) (string, bool) {
		return impl.ShortestText(f, x.p)
	}},
	{what: "LongestShortest", call: func(f impl.Format, x textArguments) (string, bool) {
		n, ok := impl.LongestShortest(f)
		return zeroAsEmpty(n), ok
	}},
	{what: "RoundsTo", pattern: takesAny, hasDecimal: true, call: func(f impl.Format, x textArguments) (string, bool) {
		is, ok := impl.RoundsTo(f, x.d.digits, x.d.ten, x.p)
		return zeroAsEmpty(oneIf(is)), ok
	}},
	{what: "CompareDecimal", pattern: takesFinite, hasDecimal: true, call: func(f impl.Format, x textArguments) (string, bool) {
		order, ok := impl.CompareDecimal(f, x.p, x.d.digits, x.d.ten)
		return zeroAsEmpty(order), ok
	}},
	{what: "NearestDecimal", pattern: takesFinite, hasPlaces: true, call: func(f impl.Format, x textArguments) (string, bool) {
		digits, ten, ok := impl.NearestDecimal(f, x.p, x.places)
		return zeroAsEmpty(digits, ten), ok
	}},
	{what: "HalfText", pattern: takesFinite, call: func(f impl.Format, x textArguments) (string, bool) {
		return impl.HalfText(f, x.p)
	}},
}

// plain are arguments that all functions take.
var plain = textArguments{p: unit, d: decimal{2, -3}, mode: impl.ModeEven, places: 1}

func TestTextsRequireFormats(t *testing.T) {
	for _, f := range notFormats() {
		for _, c := range texts {
			if _, ok := c.call(smallest, plain); !ok {
				t.Fatalf("%s of %v and %v fails", c.what, smallest, plain)
			}
			for _, p := range usual {
				for _, d := range []decimal{{0, 0}, {1, 0}, {248, 0}, {999999, 14}} {
					x := textArguments{p, d, impl.ModeEven, 1}
					got, ok := c.call(f, x)
					wantNoText(t, c.what, f, x, got, ok)
				}
			}
		}
		for _, s := range []string{"", "0e0", "-0e0", "1e0", "-1e0", "1e14", "inf", "-inf", "nan", "-", "x"} {
			got, ok := impl.ParseShort(f, s)
			wantNone(t, "ParseShort", f, s, got, ok)
		}
	}
}

func TestTextsRequirePatterns(t *testing.T) {
	for _, f := range allFormats() {
		for _, c := range texts {
			refusedOnes := notPatterns(f)
			switch c.pattern {
			case takesNone:
				continue
			case takesFinite:
				refusedOnes = refused(f)
			}
			for _, p := range refusedOnes {
				for _, d := range []decimal{{0, 0}, {2, -3}, {999999, 14}} {
					x := textArguments{p, d, impl.ModeEven, 1}
					got, ok := c.call(f, x)
					wantNoText(t, c.what, f, x, got, ok)
				}
			}
		}
	}
}

func TestTextsRequireDecimals(t *testing.T) {
	for _, f := range allFormats() {
		infinite := len(rulers()[f].sizes) - 1
		for _, c := range texts {
			if !c.hasDecimal {
				continue
			}
			for _, d := range notDecimals() {
				for _, p := range []int{0, 1, infinite - 1, infinite, infinite + 1} {
					if c.pattern == takesFinite && p >= infinite {
						continue
					}
					x := textArguments{p, d, impl.ModeEven, 1}
					got, ok := c.call(f, x)
					wantNoText(t, c.what, f, x, got, ok)
				}
			}
			for _, d := range []decimal{{0, -14}, {0, 14}, {999999, -14}, {999999, 14}} {
				x := plain
				x.d = d
				if _, ok := c.call(f, x); !ok {
					t.Fatalf("%s of %v and %v fails", c.what, f, x)
				}
			}
		}
		// In a text, digits less than 0 are those of a number less than 0.
		for _, d := range notDecimals() {
			got, ok := impl.ParseShort(f, "-"+d.text())
			wantNone(t, "ParseShort", f, "-"+d.text(), got, ok)
			if d.digits >= 0 {
				got, ok = impl.ParseShort(f, d.text())
				wantNone(t, "ParseShort", f, d.text(), got, ok)
			}
		}
	}
}

func TestTextsRequireModes(t *testing.T) {
	for _, c := range texts {
		for _, mode := range notModes() {
			if !c.hasMode {
				continue
			}
			for _, d := range []decimal{{0, 0}, {1, 0}, {17, 0}, {999999, 14}} {
				x := plain
				x.d, x.mode = d, mode
				got, ok := c.call(example, x)
				wantNoText(t, c.what, example, x, got, ok)
			}
		}
	}
}

func TestTextsRequirePlaces(t *testing.T) {
	for _, c := range texts {
		for _, places := range []int{math.MinInt, -64, -6, -1, 0, 7, 8, 14, 64, 100, 1 << 40, math.MaxInt} {
			if !c.hasPlaces {
				continue
			}
			for _, p := range []int{plusZero, minusZero, unit, one, minusGreatest} {
				x := plain
				x.p, x.places = p, places
				got, ok := c.call(example, x)
				wantNoText(t, c.what, example, x, got, ok)
			}
		}
	}
}

// TestTextsAreTotal: a panic in one of the calls fails the test, and so does a
// result beside false.
func TestTextsAreTotal(t *testing.T) {
	wild := []int{math.MinInt, math.MinInt + 1, -129, -15, -14, -1, 0, 1, 2, 3, 5, 6, 7, 10, 14, 15, 56, 119, 120, 121, 128, 255, 256, 65535, 999999, 1000000, 1 << 40, math.MaxInt}
	for _, a := range wild {
		for _, b := range wild {
			formats := []impl.Format{example, smallest, largest, {Exponent: a, Fraction: b}, {Exponent: 4, Fraction: a}, {Exponent: b, Fraction: 3}}
			for _, f := range formats {
				checkTextsAreTotal(t, f, wild, a, b)
			}
		}
	}
}

func checkTextsAreTotal(t *testing.T, f impl.Format, wild []int, a, b int) {
	t.Helper()
	for _, other := range wild {
		for _, c := range texts {
			if c.what == "LongestShortest" && other != 0 {
				continue
			}
			x := textArguments{other, decimal{a, b}, other, b}
			if got, ok := c.call(f, x); got != "" && !ok {
				t.Fatalf("%s of %v and %v: got %s, %v", c.what, f, x, got, ok)
			}
		}
		s := strconv.Itoa(a) + "e" + strconv.Itoa(other)
		if got, ok := impl.ParseShort(f, s); got != 0 && !ok {
			t.Fatalf("ParseShort of %v and %q: got %d, %v", f, s, got, ok)
		}
	}
}
