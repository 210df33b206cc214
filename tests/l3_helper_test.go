package tests

import (
	"cmp"
	"math"
	"slices"
	"sort"
	"strings"
	"testing"

	"loop.example/g01178/impl"
)

// ruler has the sizes of the patterns of a format from 0 to the greatest one,
// behind them what counts as the value behind that one, and the values of all
// patterns. A float64 has room for all of them, for the midpoints, and for the
// product of two of these.
type ruler struct {
	f      impl.Format
	sizes  []float64
	values []float64
}

func rulerOf(f impl.Format) ruler {
	r := ruler{f: f}
	for _, p := range allPatterns(f) {
		x := tell(f, p)
		if x.kind < 3 && x.sign == 0 {
			r.sizes = append(r.sizes, x.size)
		}
		r.values = append(r.values, x.double())
	}
	n := len(r.sizes)
	r.sizes = append(r.sizes, 2*r.sizes[n-1]-r.sizes[n-2])
	return r
}

// double is the value as a float64, which has infinite ones, no numbers and two
// zeros, too.
func (x told) double() float64 {
	if x.kind == 4 {
		return math.NaN()
	}
	return math.Copysign(x.order(), float64(1-2*x.sign))
}

func (r ruler) signBit() int {
	return len(r.values) / 2
}

func quietOf(f impl.Format) int {
	return number("0" + strings.Repeat("1", f.Exponent) + "1" + strings.Repeat("0", f.Fraction-1))
}

// round returns the pattern to which a number with a sign is rounded. Nothing
// is known of its size but how it compares with others: so it is exact, even if
// it has places without end.
func (r ruler) round(sign int, compareWith func(size float64) int, mode int) int {
	above := sort.Search(len(r.sizes)-1, func(i int) bool { return compareWith(r.sizes[i]) < 0 })
	p := above - 1
	if compareWith(r.sizes[p]) > 0 && r.takesUpper(p, sign, compareWith, mode) {
		p++
	}
	return p + sign*r.signBit()
}

func (r ruler) takesUpper(lower, sign int, compareWith func(size float64) int, mode int) bool {
	side := compareWith((r.sizes[lower] + r.sizes[lower+1]) / 2)
	switch mode {
	case impl.ModeEven:
		return side > 0 || side == 0 && lower%2 == 1
	case impl.ModeAway:
		return side >= 0
	case impl.ModeUp:
		return sign == 0
	case impl.ModeDown:
		return sign == 1
	case impl.ModeOdd:
		return lower%2 == 0
	}
	return false
}

// special returns the pattern of x if that is infinite, a zero or no number.
func (r ruler) special(x float64) (int, bool) {
	switch {
	case math.IsNaN(x):
		return quietOf(r.f), true
	case math.IsInf(x, 0):
		return len(r.sizes) - 1 + signOf(x)*r.signBit(), true
	case x == 0:
		return signOf(x) * r.signBit(), true
	}
	return 0, false
}

func signOf(x float64) int {
	if math.Signbit(x) {
		return 1
	}
	return 0
}

// float returns the pattern to which x is rounded.
func (r ruler) float(x float64, mode int) int {
	if p, is := r.special(x); is {
		return p
	}
	return r.round(signOf(x), func(size float64) int { return cmp.Compare(math.Abs(x), size) }, mode)
}

// The following take values. What a float64 has for them is right where it is
// infinite, a zero or no number, and otherwise its sign is.

// fused returns the pattern of x times y and z together.
func (r ruler) fused(x, y, z float64, mode int) int {
	sum := math.FMA(x, y, z)
	if sum == 0 {
		return r.zeroOf(signOf(x*y), signOf(z), mode)
	}
	if p, is := r.special(sum); is {
		return p
	}
	if sum < 0 {
		x, z = -x, -z
	}
	return r.round(signOf(sum), func(size float64) int { return cmp.Compare(x*y, size-z) }, mode)
}

// zeroOf returns the zero that is the sum of two numbers with these signs.
func (r ruler) zeroOf(first, second, mode int) int {
	if first == second {
		return first * r.signBit()
	}
	return oneIf(mode == impl.ModeDown) * r.signBit()
}

func (r ruler) plus(x, y float64, mode int) int {
	return r.fused(x, 1, y, mode)
}

func (r ruler) times(x, y float64, mode int) int {
	return r.float(x*y, mode)
}

func (r ruler) over(x, y float64, mode int) int {
	if p, is := r.special(x / y); is {
		return p
	}
	return r.round(signOf(x/y), func(size float64) int { return cmp.Compare(math.Abs(x), size*math.Abs(y)) }, mode)
}

func (r ruler) root(x float64, mode int) int {
	if p, is := r.special(math.Sqrt(x)); is {
		return p
	}
	return r.round(0, func(size float64) int { return cmp.Compare(x, size*size) }, mode)
}

// wholeOf keeps the sign of x where the result is a zero.
func wholeOf(x float64, mode int) float64 {
	switch mode {
	case impl.ModeEven:
		return math.RoundToEven(x)
	case impl.ModeAway:
		return math.Round(x)
	case impl.ModeZero:
		return math.Trunc(x)
	case impl.ModeUp:
		return math.Ceil(x)
	case impl.ModeDown:
		return math.Floor(x)
	}
	if down := math.Floor(x); math.Mod(down, 2) != 0 {
		return down
	}
	return math.Ceil(x)
}

// somePatterns has, for both signs, those around each change of the exponent
// field, so some of all kinds, and others in between.
func somePatterns(f impl.Format) []int {
	half := 1 << (widthOf(f) - 1)
	step := 1 << f.Fraction
	list := []int{0, 1, 2, 3, step + step/2 + 1, half / 3, half/2 + 1, half/2 + step/3, half - step + 1, half - step/2, half - 1}
	for p := step; p < half; p += step {
		list = append(list, p-1, p)
	}
	return withBothSigns(half, list)
}

// fewPatterns has some of all kinds, few enough for all triples of them.
func fewPatterns(f impl.Format) []int {
	half := 1 << (widthOf(f) - 1)
	step := 1 << f.Fraction
	one, infinite := half/2-step, half-step
	return withBothSigns(half, []int{0, 1, step - 1, step, one, one + 1, one + step/2, half / 3, infinite - step, infinite - 1, infinite, half - 1})
}

func withBothSigns(half int, list []int) []int {
	for _, p := range slices.Clone(list) {
		list = append(list, p+half)
	}
	slices.Sort(list)
	return slices.Compact(list)
}

// patternsFor are those of which a test may look at all pairs.
func patternsFor(f impl.Format) []int {
	if widthOf(f) <= 7 || f == example {
		return allPatterns(f)
	}
	return somePatterns(f)
}

func wantResult(t *testing.T, what string, f impl.Format, mode int, got int, ok bool, want int, arguments ...int) {
	t.Helper()
	if !ok || got != want {
		t.Fatalf("%s of %v, %v in mode %d: got %d, %v, want %d", what, f, arguments, mode, got, ok, want)
	}
}
