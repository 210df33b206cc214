package tests

import (
	"math"
	"slices"
	"testing"

	"loop.example/g01178/impl"
)

// notIntervals has what is no pattern, no number, or a zero with the sign 1 in the place
// of each end, Low greater than High, and infinite ends on the wrong side.
func notIntervals(f impl.Format) []impl.Interval {
	half := 1 << (widthOf(f) - 1)
	infinite := half - 1<<f.Fraction
	list := []impl.Interval{
		interval(half, half), interval(2, 1), interval(1, 0), interval(0, half+1), interval(half+1, half+2), interval(1, half+1),
		interval(infinite-1, half+infinite-1), interval(infinite, infinite), interval(half+infinite, half+infinite),
		interval(infinite, half+infinite), interval(infinite, infinite-1), interval(infinite, 0), interval(0, half+infinite),
	}
	wrong := append(notPatterns(f), half, infinite+1, half-1, half+infinite+1, 2*half-1)
	for _, p := range wrong {
		list = append(list, interval(p, p), interval(p, 1), interval(p, infinite), interval(0, p), interval(half+1, p), interval(half+infinite, p))
	}
	return list
}

// TestPlainIntervalsAreTaken: so that in the tests below a single argument lets a call
// fail.
func TestPlainIntervalsAreTaken(t *testing.T) {
	for _, f := range allFormats() {
		for _, c := range intervalCalls {
			if _, ok := c.call(f, plainInterval()); !ok {
				t.Errorf("%s of %v and %v fails", c.what, f, plainInterval())
			}
		}
	}
}

func TestIntervalsRequireFormats(t *testing.T) {
	for _, f := range notFormats() {
		for _, c := range intervalCalls {
			for _, x := range []intervalArguments{{}, plainInterval(), {y: interval(1, 1)}, {x: interval(128, 128), y: interval(2, 1), p: -1}} {
				got, ok := c.call(f, x)
				wantResults(t, c.what, f, x, got, ok, nil, false)
			}
		}
	}
}

// wantRefusedInterval calls all functions that take something.
func wantRefusedInterval(t *testing.T, f impl.Format, word string, x intervalArguments) {
	t.Helper()
	for _, c := range intervalCalls {
		if takes(c.takes, word) {
			got, ok := c.call(f, x)
			wantResults(t, c.what, f, x, got, ok, nil, false)
		}
	}
}

func TestIntervalsAreRequired(t *testing.T) {
	for _, f := range allFormats() {
		for _, wrong := range notIntervals(f) {
			is, ok := impl.IsInterval(f, wrong)
			wantResults(t, "IsInterval", f, wrong, []int{oneIf(is)}, ok, []int{0}, true)
			x := plainInterval()
			x.x = wrong
			wantRefusedInterval(t, f, "x", x)
			x.coefficients = nil
			wantRefusedInterval(t, f, "x", x)
			x = plainInterval()
			x.y = wrong
			wantRefusedInterval(t, f, "y", x)
			x.x = wrong
			wantRefusedInterval(t, f, "y", x)
		}
	}
}

func TestIntervalsRequireFinitePatterns(t *testing.T) {
	for _, f := range allFormats() {
		for _, p := range refused(f) {
			x := plainInterval()
			x.p = p
			wantRefusedInterval(t, f, "p", x)
		}
		for _, p := range append(notPatterns(f), notFinite(f)[0], notFinite(f)[1], 1<<widthOf(f)-1) {
			for length := 1; length <= impl.MaxPoly; length++ {
				for place := range length {
					x := plainInterval()
					x.coefficients = make([]int, length)
					x.coefficients[place] = p
					wantRefusedInterval(t, f, "coefficients", x)
				}
			}
		}
	}
}

func TestIntervalsRequireDyadics(t *testing.T) {
	for _, f := range allFormats() {
		for _, d := range notDyadics() {
			wantRefusedInterval(t, f, "d", intervalArguments{d: d})
		}
	}
}

func TestPolynomialsHaveLimits(t *testing.T) {
	for _, f := range allFormats() {
		for length := range 20 {
			coefficients := slices.Repeat([]int{1}, length)
			got, ok := impl.PolyInterval(f, coefficients, interval(0, 0))
			want := ends(oneIf(length > 0), oneIf(length > 0))
			if length > impl.MaxPoly {
				want = ends(0, 0)
			}
			wantResults(t, "PolyInterval", f, length, ends(got.Low, got.High), ok, want, length <= impl.MaxPoly)
		}
	}
}

// TestCoefficientsStay: no list is changed, nor what lies around it, and nothing is read
// behind it.
func TestCoefficientsStay(t *testing.T) {
	for _, f := range allFormats() {
		lists := append(somePolys(f), nil, slices.Repeat([]int{1}, 7), []int{1, -1, 1}, []int{1 << widthOf(f)})
		for i, coefficients := range lists {
			outer, inner := surrounded(coefficients)
			before := slices.Clone(outer)
			x := someIntervals(f)[i%70]
			first, ok := impl.PolyInterval(f, inner, x)
			second, fine := impl.PolyInterval(f, slices.Clone(coefficients), x)
			wantInterval(t, "PolyInterval", f, coefficients, first, ok, second, fine)
			if !slices.Equal(outer, before) {
				t.Fatalf("PolyInterval of %v, %v and %v leaves %v", f, coefficients, x, outer)
			}
		}
	}
}

// TestIntervalsAreTotal: a panic in one of the calls fails the test, and so does a result
// beside false, or one that is no interval.
func TestIntervalsAreTotal(t *testing.T) {
	for _, a := range append([]int{48, 56, 247, 248}, wild...) {
		for _, b := range append([]int{48, 56, 247, 248}, wild...) {
			for _, f := range []impl.Format{example, smallest, largest, {Exponent: a, Fraction: b}, {Exponent: 4, Fraction: a}, {Exponent: b, Fraction: 3}} {
				checkIntervalsAreTotal(t, f, a, b)
			}
		}
	}
}

func checkIntervalsAreTotal(t *testing.T, f impl.Format, a, b int) {
	t.Helper()
	arguments := []intervalArguments{
		{x: interval(a, b), y: interval(b, a), p: a, d: num(a, b), coefficients: []int{a, b}},
		{x: interval(a, a), y: interval(b, b), p: b, d: num(b|1, a), coefficients: []int{b, 1, a, a, 1, b}},
		{x: interval(0, a), y: interval(b, 1), p: a, d: num(a|1, -9), coefficients: []int{1, 2, 3}},
		{x: interval(a, 120), y: interval(248, b), p: b, d: num(a, 0), coefficients: slices.Repeat([]int{a}, 7)},
		{x: interval(math.MinInt, b), y: interval(a, math.MaxInt), p: a, d: num(1, b)},
	}
	for _, x := range arguments {
		for _, c := range intervalCalls {
			got, ok := c.call(f, x)
			if !ok && got != nil {
				t.Fatalf("%s of %v and %v fails with %v", c.what, f, x, got)
			}
			if ok && len(got) == 2 {
				if is, _ := impl.IsInterval(f, interval(got[0], got[1])); !is {
					t.Fatalf("%s of %v and %v is %v, which is no interval", c.what, f, x, got)
				}
			}
		}
	}
}
