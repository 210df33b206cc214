package tests

import (
	"fmt"
	"math"
	"testing"

	"loop.example/g01178/impl"
)

// patternCalls are all functions of chapter 1 that take one pattern. They
// return their results but the last one as a text, "" for those that are zero.
var patternCalls = map[string]func(impl.Format, int) (string, bool){
	"FieldsOf": func(f impl.Format, p int) (string, bool) {
		sign, exponent, fraction, ok := impl.FieldsOf(f, p)
		return zeroAsEmpty(sign, exponent, fraction), ok
	},
	"KindOf":      asText(impl.KindOf),
	"UnitsOf":     asText(impl.UnitsOf),
	"NegateOf":    asText(impl.NegateOf),
	"AbsOf":       asText(impl.AbsOf),
	"NextUp":      asText(impl.NextUp),
	"NextDown":    asText(impl.NextDown),
	"OrderKey":    asText(impl.OrderKey),
	"StepUnits":   asText(impl.StepUnits),
	"PatternText": impl.PatternText,
	"CompareOf with 0 behind": func(f impl.Format, p int) (string, bool) {
		c, ok := impl.CompareOf(f, p, 0)
		return zeroAsEmpty(c), ok
	},
	"CompareOf with 0 in front": func(f impl.Format, p int) (string, bool) {
		c, ok := impl.CompareOf(f, 0, p)
		return zeroAsEmpty(c), ok
	},
}

// formatCalls are all functions of chapter 1 that take a format and numbers
// that are valid for each format.
var formatCalls = map[string]func(impl.Format) (string, bool){
	"WidthOf":     ofFormat(impl.WidthOf),
	"BiasOf":      ofFormat(impl.BiasOf),
	"GreatestOf":  ofFormat(impl.GreatestOf),
	"LeastNormal": ofFormat(impl.LeastNormal),
	"PatternOf": func(f impl.Format) (string, bool) {
		p, ok := impl.PatternOf(f, 0, 1, 1)
		return zeroAsEmpty(p), ok
	},
	"PatternOfUnits": func(f impl.Format) (string, bool) {
		p, ok := impl.PatternOfUnits(f, 1)
		return zeroAsEmpty(p), ok
	},
	"PatternOfUnits less than 0": func(f impl.Format) (string, bool) {
		p, ok := impl.PatternOfUnits(f, -1)
		return zeroAsEmpty(p), ok
	},
	"PatternOfUnits 0": func(f impl.Format) (string, bool) {
		p, ok := impl.PatternOfUnits(f, 0)
		return zeroAsEmpty(p), ok
	},
	"NearestBelow": func(f impl.Format) (string, bool) {
		p, ok := impl.NearestBelow(f, 1)
		return zeroAsEmpty(p), ok
	},
	"CountKinds": func(f impl.Format) (string, bool) {
		list, ok := impl.CountKinds(f)
		if len(list) == 0 {
			return "", ok
		}
		return fmt.Sprint(list), ok
	},
}

func ofFormat(call func(impl.Format) (int, bool)) func(impl.Format) (string, bool) {
	return func(f impl.Format) (string, bool) {
		n, ok := call(f)
		return zeroAsEmpty(n), ok
	}
}

func asText(call ofPattern) func(impl.Format, int) (string, bool) {
	return func(f impl.Format, p int) (string, bool) {
		n, ok := call(f, p)
		return zeroAsEmpty(n), ok
	}
}

func zeroAsEmpty(list ...int) string {
	for _, n := range list {
		if n != 0 {
			return fmt.Sprint(list)
		}
	}
	return ""
}

func TestFunctionsRequireFormats(t *testing.T) {
	for _, f := range notFormats() {
		for what, call := range formatCalls {
			if got, ok := call(f); got != "" || ok {
				t.Errorf("%s of %v: got %s, %v", what, f, got, ok)
			}
		}
		for what, call := range patternCalls {
			for _, p := range []int{0, 1, 2, 8, 56, 120, 127, 128, 31744} {
				if got, ok := call(f, p); got != "" || ok {
					t.Errorf("%s of %v and %d: got %s, %v", what, f, p, got, ok)
				}
			}
		}
		for _, s := range []string{"", "0.", "..", "0..", "0.0111.000", "0.0.0", "0.00000000000", "0.000.", "..000"} {
			got, ok := impl.ParsePattern(f, s)
			wantNone(t, "ParsePattern", f, s, got, ok)
		}
	}
}

func TestFunctionsRequirePatterns(t *testing.T) {
	for _, f := range allFormats() {
		for what, call := range patternCalls {
			if _, ok := call(f, 0); !ok {
				t.Errorf("%s of %v and 0 fails", what, f)
			}
			for _, p := range notPatterns(f) {
				if got, ok := call(f, p); got != "" || ok {
					t.Errorf("%s of %v and %d: got %s, %v", what, f, p, got, ok)
				}
			}
		}
	}
}

// TestFormatsAreTotal: a panic in one of the calls fails the test, and so does
// a result beside false.
func TestFormatsAreTotal(t *testing.T) {
	wild := []int{math.MinInt, math.MinInt + 1, -1 << 32, -129, -1, 0, 1, 2, 3, 4, 5, 6, 10, 11, 63, 64, 65, 127, 1 << 16, 1 << 41, 1<<41 + 1, math.MaxInt}
	for _, exponent := range wild {
		for _, fraction := range wild {
			f := impl.Format{Exponent: exponent, Fraction: fraction}
			for _, p := range wild {
				for what, call := range patternCalls {
					if got, ok := call(f, p); got != "" && !ok {
						t.Errorf("%s of %v and %d: got %s, %v", what, f, p, got, ok)
					}
				}
				for what, call := range map[string]ofPattern{"PatternOfUnits": impl.PatternOfUnits, "NearestBelow": impl.NearestBelow} {
					if got, ok := call(f, p); got != 0 && !ok {
						t.Errorf("%s of %v and %d: got %d, %v", what, f, p, got, ok)
					}
				}
				if got, ok := impl.PatternOf(f, p, fraction, exponent); got != 0 && !ok {
					t.Errorf("PatternOf of %v: got %d, %v", f, got, ok)
				}
			}
		}
	}
}
