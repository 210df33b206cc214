package tests

import (
	"math"
	"testing"

	"loop.example/g01178/impl"
)

// rounding are all functions of chapter 2 that take a format and a dyadic
// number; those without a mode leave it alone. They return their results but
// the last one as a text, "" for those that are zero.
var rounding = map[string]func(impl.Format, impl.Dyadic, int) (string, bool){
	"RoundDyadic": func(f impl.Format, d impl.Dyadic, mode int) (string, bool) {
		p, ok := impl.RoundDyadic(f, d, mode)
		return zeroAsEmpty(p), ok
	},
	"ErrorOf": func(f impl.Format, d impl.Dyadic, mode int) (string, bool) {
		e, ok := impl.ErrorOf(f, d, mode)
		return zeroAsEmpty(e.Num, e.Exp), ok
	},
	"FlagsOf": func(f impl.Format, d impl.Dyadic, _ int) (string, bool) {
		flags, ok := impl.FlagsOf(f, d)
		return zeroAsEmpty(flags), ok
	},
	"IsExact": func(f impl.Format, d impl.Dyadic, _ int) (string, bool) {
		is, ok := impl.IsExact(f, d)
		return zeroAsEmpty(oneIf(is)), ok
	},
	"BoundsOf": func(f impl.Format, d impl.Dyadic, _ int) (string, bool) {
		down, up, ok := impl.BoundsOf(f, d)
		return zeroAsEmpty(down, up), ok
	},
	"IsMidpoint": func(f impl.Format, d impl.Dyadic, _ int) (string, bool) {
		is, ok := impl.IsMidpoint(f, d)
		return zeroAsEmpty(oneIf(is)), ok
	},
}

// dyadicCalls are all functions of chapter 2 that take dyadic numbers alone.
var dyadicCalls = map[string]func(impl.Dyadic) (string, bool){
	"NegateDyadic": func(d impl.Dyadic) (string, bool) {
		n, ok := impl.NegateDyadic(d)
		return zeroAsEmpty(n.Num, n.Exp), ok
	},
	"DyadicText": impl.DyadicText,
	"PlusDyadic with 1 behind": func(d impl.Dyadic) (string, bool) {
		n, ok := impl.PlusDyadic(d, impl.Dyadic{Num: 1})
		return zeroAsEmpty(n.Num, n.Exp), ok
	},
	"PlusDyadic with 0 in front": func(d impl.Dyadic) (string, bool) {
		n, ok := impl.PlusDyadic(impl.Dyadic{}, d)
		return zeroAsEmpty(n.Num, n.Exp), ok
	},
	"PlusDyadic with 0 behind": func(d impl.Dyadic) (string, bool) {
		n, ok := impl.PlusDyadic(d, impl.Dyadic{})
		return zeroAsEmpty(n.Num, n.Exp), ok
	},
	"TimesDyadic with 0 behind": func(d impl.Dyadic) (string, bool) {
		n, ok := impl.TimesDyadic(d, impl.Dyadic{})
		return zeroAsEmpty(n.Num, n.Exp), ok
	},
	"TimesDyadic with 1 in front": func(d impl.Dyadic) (string, bool) {
		n, ok := impl.TimesDyadic(impl.Dyadic{Num: 1}, d)
		return zeroAsEmpty(n.Num, n.Exp), ok
	},
	"CompareDyadic with 1 behind": func(d impl.Dyadic) (string, bool) {
		order, ok := impl.CompareDyadic(d, impl.Dyadic{Num: 1})
		return zeroAsEmpty(order), ok
	},
	"CompareDyadic with 0 in front": func(d impl.Dyadic) (string, bool) {
		order, ok := impl.CompareDyadic(impl.Dyadic{}, d)
		return zeroAsEmpty(order), ok
	},
	"CompareDyadic with itself": func(d impl.Dyadic) (string, bool) {
		order, ok := impl.CompareDyadic(d, d)
		return zeroAsEmpty(order), ok
	},
}

func TestDyadicCallsRequireDyadics(t *testing.T) {
	for what, call := range dyadicCalls {
		if _, ok := call(impl.Dyadic{Num: 3, Exp: -1}); !ok {
			t.Errorf("%s of 3*2^-1 fails", what)
		}
		for _, d := range notDyadics() {
			if got, ok := call(d); got != "" || ok {
				t.Errorf("%s of %v: got %s, %v", what, d, got, ok)
			}
		}
	}
}

func TestRoundingRequiresItsArguments(t *testing.T) {
	d := impl.Dyadic{Num: 1, Exp: -1}
	for what, call := range rounding {
		for _, mode := range modes {
			if _, ok := call(example, d, mode); !ok {
				t.Errorf("%s of %v in mode %d fails", what, d, mode)
			}
			for _, f := range notFormats() {
				if got, ok := call(f, d, mode); got != "" || ok {
					t.Errorf("%s of %v: got %s, %v", what, f, got, ok)
				}
			}
			for _, d := range notDyadics() {
				if got, ok := call(example, d, mode); got != "" || ok {
					t.Errorf("%s of %v: got %s, %v", what, d, got, ok)
				}
			}
		}
	}
}

func TestRoundingRequiresModes(t *testing.T) {
	for _, mode := range notModes() {
		for _, d := range []impl.Dyadic{{}, {Num: 1}, {Num: 17}, {Num: 1, Exp: 100}} {
			got, ok := impl.RoundDyadic(example, d, mode)
			wantNone(t, "RoundDyadic", example, mode, got, ok)
			left, ok := impl.ErrorOf(example, d, mode)
			wantNoDyadic(t, "ErrorOf", mode, left, ok)
			got, ok = impl.RoundFraction(example, d.Num, 3, mode)
			wantNone(t, "RoundFraction", example, mode, got, ok)
		}
	}
}

func TestValuesRequireFormatsAndPatterns(t *testing.T) {
	for _, f := range notFormats() {
		unit, ok := impl.UnitOf(f)
		wantNoDyadic(t, "UnitOf", f, unit, ok)
		got, ok := impl.RoundFraction(f, 1, 3, impl.ModeEven)
		wantNone(t, "RoundFraction", f, "1 / 3", got, ok)
		for _, p := range []int{0, 1, 56, 127, 128} {
			value, ok := impl.ValueOf(f, p)
			wantNoDyadic(t, "ValueOf", f, value, ok)
			value, ok = impl.MidpointOf(f, p)
			wantNoDyadic(t, "MidpointOf", f, value, ok)
		}
	}
	for _, f := range allFormats() {
		for _, p := range notPatterns(f) {
			value, ok := impl.ValueOf(f, p)
			wantNoDyadic(t, "ValueOf", p, value, ok)
			value, ok = impl.MidpointOf(f, p)
			wantNoDyadic(t, "MidpointOf", p, value, ok)
		}
	}
}

// TestRoundingIsTotal: a panic in one of the calls fails the test, and so does
// a result beside false.
func TestRoundingIsTotal(t *testing.T) {
	wild := []int{math.MinInt, math.MinInt + 1, -impl.MaxNum, -101, -100, -3, -1, 0, 1, 2, 4, 5, 6, 10, 64, 100, 101, impl.MaxNum - 1, impl.MaxNum, 1<<62 + 1, math.MaxInt}
	for _, num := range wild {
		for _, exp := range wild {
			d := impl.Dyadic{Num: num, Exp: exp}
			for what, call := range dyadicCalls {
				if got, ok := call(d); got != "" && !ok {
					t.Errorf("%s of %v: got %s", what, d, got)
				}
			}
			if got, ok := impl.DyadicOf(num, exp); got != (impl.Dyadic{}) && !ok || ok && !impl.IsDyadic(got) {
				t.Errorf("DyadicOf of %v: got %v, %v", d, got, ok)
			}
			checkRoundingIsTotal(t, wild, d)
		}
	}
}

func checkRoundingIsTotal(t *testing.T, wild []int, d impl.Dyadic) {
	t.Helper()
	for _, mode := range wild {
		for _, f := range []impl.Format{example, smallest, largest, {Exponent: d.Num, Fraction: d.Exp}, {Exponent: mode, Fraction: d.Exp}, {Exponent: 4, Fraction: mode}} {
			for what, call := range rounding {
				if got, ok := call(f, d, mode); got != "" && !ok {
					t.Errorf("%s of %v, %v in mode %d: got %s", what, f, d, mode, got)
				}
			}
			for _, p := range []int{d.Num, d.Exp} {
				if value, ok := impl.ValueOf(f, p); value != (impl.Dyadic{}) && !ok {
					t.Errorf("ValueOf of %v and %d: got %v", f, p, value)
				}
				if value, ok := impl.MidpointOf(f, p); value != (impl.Dyadic{}) && !ok {
					t.Errorf("MidpointOf of %v and %d: got %v", f, p, value)
				}
			}
			if p, ok := impl.RoundFraction(f, d.Num, d.Exp, mode); p != 0 && !ok {
				t.Errorf("RoundFraction of %v, %v in mode %d: got %d", f, d, mode, p)
			}
		}
	}
}
