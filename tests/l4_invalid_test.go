package tests

import (
	"math"
	"testing"

	"loop.example/g01178/impl"
)

// conversions are all functions of chapter 4. They take as many of three formats
// and, in number, of what else there is as they have use for.
var conversions = []struct {
	what    string
	formats int
	takes   string // what number is
	hasMode bool
	call    func(x [3]impl.Format, number int, mode int) (int, bool)
}{
	{"ConvertOf", 2, "pattern", true, func(x [3]impl.Format, p int, mode int) (int, bool) {
		return impl.ConvertOf(x[0], x[1], p, mode)
	}},
	{"HoldsFormat", 2, "", false, func(x [3]impl.Format, _ int, _ int) (int, bool) {
		is, ok := impl.HoldsFormat(x[0], x[1])
		return oneIf(is), ok
	}},
	{"LeastHolding", 2, "", false, func(x [3]impl.Format, _ int, _ int) (int, bool) {
		h, ok := impl.LeastHolding(x[0], x[1])
		return oneIf(h != impl.Format{}), ok
	}},
	{"ThroughThird", 3, "pattern", true, func(x [3]impl.Format, p int, mode int) (int, bool) {
		return impl.ThroughThird(x[0], x[1], x[2], p, mode)
	}},
	{"FirstDouble", 3, "", false, func(x [3]impl.Format, _ int, _ int) (int, bool) {
		return impl.FirstDouble(x[0], x[1], x[2])
	}},
	{"IsHarmless", 2, "", false, func(x [3]impl.Format, _ int, _ int) (int, bool) {
		is, ok := impl.IsHarmless(x[0], x[1])
		return oneIf(is), ok
	}},
	{"ThroughOdd", 3, "pattern", false, func(x [3]impl.Format, p int, _ int) (int, bool) {
		return impl.ThroughOdd(x[0], x[1], x[2], p)
	}},
	{"CountLost", 2, "", false, func(x [3]impl.Format, _ int, _ int) (int, bool) {
		return impl.CountLost(x[0], x[1])
	}},
	{"CountShared", 2, "", false, func(x [3]impl.Format, _ int, _ int) (int, bool) {
		return impl.CountShared(x[0], x[1])
	}},
	{"SingleOf", 1, "pattern", false, func(x [3]impl.Format, p int, _ int) (int, bool) {
		return impl.SingleOf(x[0], p)
	}},
	{"FromSingle", 1, "single", true, func(x [3]impl.Format, s int, mode int) (int, bool) {
		return impl.FromSingle(x[0], s, mode)
	}},
	{"FromWhole", 1, "whole", true, func(x [3]impl.Format, n int, mode int) (int, bool) {
		return impl.FromWhole(x[0], n, mode)
	}},
	{"ToWhole", 1, "pattern", true, func(x [3]impl.Format, p int, mode int) (int, bool) {
		return impl.ToWhole(x[0], p, mode)
	}},
}

// doubled are formats for which all of chapter 4 succeeds: FirstDouble has one.
var doubled = [3]impl.Format{example, smallest, example}

// outOfRange has numbers right outside of what each word stands for, and others.
func outOfRange(f impl.Format, word string) []int {
	far := []int{1 << 40, math.MinInt, math.MinInt + 1, math.MaxInt}
	switch word {
	case "pattern":
		return notPatterns(f)
	case "single":
		return append(far, -1, -impl.MaxSingle, impl.MaxSingle+1, impl.MaxSingle+1065353217)
	case "whole":
		return append(far, impl.MaxWholeNumber+1, -impl.MaxWholeNumber-1)
	}
	return nil
}

func TestConversionsRequireFormats(t *testing.T) {
	for _, c := range conversions {
		if _, ok := c.call(doubled, one, impl.ModeEven); !ok {
			t.Fatalf("%s of %v and %d fails", c.what, doubled, one)
		}
		for place := range c.formats {
			for _, f := range notFormats() {
				for _, p := range usual {
					x := doubled
					x[place] = f
					got, ok := c.call(x, p, impl.ModeEven)
					wantNone(t, c.what, f, x, got, ok)
				}
			}
		}
	}
}

func TestConversionsRequireNumbers(t *testing.T) {
	for _, c := range conversions {
		for _, f := range allFormats() {
			x := [3]impl.Format{f, example, smallest}
			for _, number := range outOfRange(f, c.takes) {
				for _, mode := range modes {
					got, ok := c.call(x, number, mode)
					wantNone(t, c.what, f, number, got, ok)
				}
			}
		}
	}
}

// TestConversionsTakePatternsOfTheFirst: a pattern of the others alone is none.
func TestConversionsTakePatternsOfTheFirst(t *testing.T) {
	for _, c := range conversions {
		if c.takes != "pattern" {
			continue
		}
		for _, p := range []int{16, 17, one, 255} {
			got, ok := c.call([3]impl.Format{smallest, example, example}, p, impl.ModeEven)
			wantNone(t, c.what, smallest, p, got, ok)
		}
		if _, ok := c.call([3]impl.Format{example, smallest, smallest}, greatest, impl.ModeEven); !ok {
			t.Errorf("%s of %v and %d fails", c.what, example, greatest)
		}
	}
}

func TestConversionsRequireModes(t *testing.T) {
	for _, c := range conversions {
		if !c.hasMode {
			continue
		}
		for _, p := range usual {
			for _, mode := range notModes() {
				got, ok := c.call(doubled, p, mode)
				wantNone(t, c.what, example, mode, got, ok)
			}
		}
	}
}

// TestConversionsAtBounds: both bounds of single patterns and whole numbers are
// met exactly.
func TestConversionsAtBounds(t *testing.T) {
	for _, f := range allFormats() {
		for _, mode := range modes {
			for _, s := range []int{0, impl.MaxSingle} {
				if _, ok := impl.FromSingle(f, s, mode); !ok {
					t.Errorf("FromSingle of %v and %d fails", f, s)
				}
			}
			for _, n := range []int{-impl.MaxWholeNumber, 0, impl.MaxWholeNumber} {
				if _, ok := impl.FromWhole(f, n, mode); !ok {
					t.Errorf("FromWhole of %v and %d fails", f, n)
				}
			}
		}
	}
}

// TestConversionsAreTotal: a panic in one of the calls fails the test, and so
// does a result beside false, or one that is out of range.
func TestConversionsAreTotal(t *testing.T) {
	wild := []int{math.MinInt, math.MinInt + 1, -1000001, -129, -1, 0, 1, 2, 3, 5, 6, 10, 11, 56, 120, 127, 128, 255, 256, 65535, 65536, 1 << 31, impl.MaxSingle, 1 << 40, math.MaxInt}
	for _, a := range wild {
		for _, b := range wild {
			for _, f := range []impl.Format{example, {Exponent: a, Fraction: b}, {Exponent: 4, Fraction: a}, {Exponent: b, Fraction: 3}} {
				checkConversionsAreTotal(t, [3]impl.Format{f, example, smallest}, a, b)
				checkConversionsAreTotal(t, [3]impl.Format{example, f, smallest}, a, b)
				checkConversionsAreTotal(t, [3]impl.Format{smallest, example, f}, a, b)
				checkConversionsAreTotal(t, [3]impl.Format{f, f, f}, a, b)
			}
		}
	}
}

func checkConversionsAreTotal(t *testing.T, x [3]impl.Format, number, mode int) {
	t.Helper()
	for _, c := range conversions {
		got, ok := c.call(x, number, mode)
		if !ok && got != 0 || got < -impl.MaxWholeNumber || got > impl.MaxSingle {
			t.Fatalf("%s of %v and %d in mode %d: got %d, %v", c.what, x, number, mode, got, ok)
		}
	}
}
