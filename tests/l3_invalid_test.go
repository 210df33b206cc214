package tests

import (
	"math"
	"testing"

	"loop.example/g01178/impl"
)

// arithmetic are all functions of chapter 3 that take patterns. They leave alone
// those of the arguments that they have no use for.
var arithmetic = []struct {
	what     string
	patterns int
	hasMode  bool
	call     func(f impl.Format, x [3]int, k int, mode int) (int, bool)
}{
	{"PlusOf", 2, true, func(f impl.Format, x [3]int, _ int, mode int) (int, bool) {
		return impl.PlusOf(f, x[0], x[1], mode)
	}},
	{"LessOf", 2, true, func(f impl.Format, x [3]int, _ int, mode int) (int, bool) {
		return impl.LessOf(f, x[0], x[1], mode)
	}},
	{"TimesOf", 2, true, func(f impl.Format, x [3]int, _ int, mode int) (int, bool) {
		return impl.TimesOf(f, x[0], x[1], mode)
	}},
	{"DivideOf", 2, true, func(f impl.Format, x [3]int, _ int, mode int) (int, bool) {
		return impl.DivideOf(f, x[0], x[1], mode)
	}},
	{"RootOf", 1, true, func(f impl.Format, x [3]int, _ int, mode int) (int, bool) {
		return impl.RootOf(f, x[0], mode)
	}},
	{"FusedOf", 3, true, func(f impl.Format, x [3]int, _ int, mode int) (int, bool) {
		return impl.FusedOf(f, x[0], x[1], x[2], mode)
	}},
	{"RemainderOf", 2, false, func(f impl.Format, x [3]int, _ int, _ int) (int, bool) {
		return impl.RemainderOf(f, x[0], x[1])
	}},
	{"WholeOf", 1, true, func(f impl.Format, x [3]int, _ int, mode int) (int, bool) {
		return impl.WholeOf(f, x[0], mode)
	}},
	{"ScaleOf", 1, true, func(f impl.Format, x [3]int, k int, mode int) (int, bool) {
		return impl.ScaleOf(f, x[0], k, mode)
	}},
	{"MinOf", 2, false, func(f impl.Format, x [3]int, _ int, _ int) (int, bool) {
		return impl.MinOf(f, x[0], x[1])
	}},
	{"MaxOf", 2, false, func(f impl.Format, x [3]int, _ int, _ int) (int, bool) {
		return impl.MaxOf(f, x[0], x[1])
	}},
	{"ExactPlus", 2, false, func(f impl.Format, x [3]int, _ int, _ int) (int, bool) {
		is, ok := impl.ExactPlus(f, x[0], x[1])
		return oneIf(is), ok
	}},
	{"ExactTimes", 2, false, func(f impl.Format, x [3]int, _ int, _ int) (int, bool) {
		is, ok := impl.ExactTimes(f, x[0], x[1])
		return oneIf(is), ok
	}},
}

// usual are patterns of each kind.
var usual = []int{plusZero, minusZero, unit, one, minusGreatest, infinite, quiet}

func TestArithmeticRequiresFormats(t *testing.T) {
	for _, f := range notFormats() {
		got, ok := impl.QuietOf(f)
		wantNone(t, "QuietOf", f, "nothing", got, ok)
		for _, c := range arithmetic {
			for _, p := range usual {
				got, ok := c.call(f, [3]int{p, p, p}, 1, impl.ModeEven)
				wantNone(t, c.what, f, p, got, ok)
			}
		}
	}
}

func TestArithmeticRequiresPatterns(t *testing.T) {
	for _, f := range allFormats() {
		for _, c := range arithmetic {
			if _, ok := c.call(f, [3]int{}, 0, impl.ModeEven); !ok {
				t.Fatalf("%s of %v and zeros fails", c.what, f)
			}
			for place := range c.patterns {
				for _, p := range notPatterns(f) {
					for _, other := range fewPatterns(f) {
						x := [3]int{other, other, other}
						x[place] = p
						got, ok := c.call(f, x, 0, impl.ModeEven)
						wantNone(t, c.what, f, x, got, ok)
					}
				}
			}
		}
	}
}

func TestArithmeticRequiresModes(t *testing.T) {
	for _, c := range arithmetic {
		for _, p := range usual {
			for _, mode := range notModes() {
				got, ok := c.call(example, [3]int{p, p, p}, 0, mode)
				if c.hasMode {
					wantNone(t, c.what, example, mode, got, ok)
				}
			}
		}
	}
}

// TestArithmeticIsTotal: a panic in one of the calls fails the test, and so does
// a result beside false, or one that is no pattern.
func TestArithmeticIsTotal(t *testing.T) {
	wild := []int{math.MinInt, math.MinInt + 1, -129, -61, -60, -1, 0, 1, 2, 5, 6, 10, 56, 60, 61, 64, 127, 128, 255, 256, 65535, 1 << 40, math.MaxInt}
	for _, a := range wild {
		for _, b := range wild {
			formats := []impl.Format{example, smallest, largest, {Exponent: a, Fraction: b}, {Exponent: 4, Fraction: a}, {Exponent: b, Fraction: 3}}
			for _, f := range formats {
				checkArithmeticIsTotal(t, f, wild, a, b)
			}
		}
	}
}

func checkArithmeticIsTotal(t *testing.T, f impl.Format, wild []int, a, b int) {
	t.Helper()
	if p, ok := impl.QuietOf(f); p != 0 && !ok {
		t.Fatalf("QuietOf of %v: got %d", f, p)
	}
	for _, other := range wild {
		for _, c := range arithmetic {
			for _, mode := range []int{impl.ModeEven, impl.ModeDown, b} {
				p, ok := c.call(f, [3]int{a, b, other}, other, mode)
				if p != 0 && !ok || p < 0 || p >= 1<<16 {
					t.Fatalf("%s of %v, %d, %d and %d in mode %d: got %d, %v", c.what, f, a, b, other, mode, p, ok)
				}
			}
		}
	}
}
