package tests

import (
	"cmp"
	"math"
	"math/big"
	"math/rand/v2"
	"slices"
	"testing"

	"loop.example/g01178/impl"
)

func interval(low, high int) impl.Interval {
	return impl.Interval{Low: low, High: high}
}

// The following follow the document's words. A float64 has the values of all ends,
// infinite ones too, and loses nothing of their sums and products.

func (r ruler) isInterval(x impl.Interval) bool {
	for _, p := range []int{x.Low, x.High} {
		if p < 0 || p >= len(r.values) || p == r.signBit() {
			return false
		}
	}
	low, high := r.values[x.Low], r.values[x.High]
	return low <= high && !math.IsInf(low, 1) && !math.IsInf(high, -1)
}

// ends gives zeros the sign 0.
func (r ruler) ends(low, high int) impl.Interval {
	return interval(r.unsigned(low), r.unsigned(high))
}

func (r ruler) unsigned(p int) int {
	if p == r.signBit() {
		return 0
	}
	return p
}

func (r ruler) encloses(x impl.Interval, value float64) bool {
	return r.values[x.Low] <= value && value <= r.values[x.High]
}

func (r ruler) isWithin(x, y impl.Interval) bool {
	return r.values[x.Low] >= r.values[y.Low] && r.values[x.High] <= r.values[y.High]
}

func (r ruler) hull(x, y impl.Interval) impl.Interval {
	if r.values[y.Low] < r.values[x.Low] {
		x.Low = y.Low
	}
	if r.values[y.High] > r.values[x.High] {
		x.High = y.High
	}
	return x
}

// meet fails if there is no number in both.
func (r ruler) meet(x, y impl.Interval) (impl.Interval, bool) {
	if r.values[y.Low] > r.values[x.Low] {
		x.Low = y.Low
	}
	if r.values[y.High] < r.values[x.High] {
		x.High = y.High
	}
	if r.values[x.Low] > r.values[x.High] {
		return impl.Interval{}, false
	}
	return x, true
}

func (r ruler) plusInterval(x, y impl.Interval) impl.Interval {
	return r.ends(
		r.plus(r.values[x.Low], r.values[y.Low], impl.ModeDown),
		r.plus(r.values[x.High], r.values[y.High], impl.ModeUp))
}

func (r ruler) lessInterval(x, y impl.Interval) impl.Interval {
	return r.ends(
		r.plus(r.values[x.Low], -r.values[y.High], impl.ModeDown),
		r.plus(r.values[x.High], -r.values[y.Low], impl.ModeUp))
}

// timesInterval rounds the least and the greatest one of the exact products.
func (r ruler) timesInterval(x, y impl.Interval) impl.Interval {
	least, greatest := math.Inf(1), math.Inf(-1)
	for _, a := range r.valuesOf([]int{x.Low, x.High}) {
		for _, b := range r.valuesOf([]int{y.Low, y.High}) {
			product := a * b
			if math.IsNaN(product) {
				product = 0
			}
			least, greatest = min(least, product), max(greatest, product)
		}
	}
	return r.ends(r.float(least, impl.ModeDown), r.float(greatest, impl.ModeUp))
}

// overInterval is told which quotients are the least and the greatest one by those that
// a float64 has: they differ where the exact ones do.
func (r ruler) overInterval(x, y impl.Interval) (impl.Interval, bool) {
	if r.encloses(y, 0) {
		return impl.Interval{}, false
	}
	least, greatest := math.Inf(1), math.Inf(-1)
	var low, high int
	for _, a := range r.valuesOf([]int{x.Low, x.High}) {
		for _, b := range r.valuesOf([]int{y.Low, y.High}) {
			num, den := a, b
			if math.IsInf(a, 0) && math.IsInf(b, 0) {
				num, den = 0, 1
			}
			if num/den <= least {
				least, low = num/den, r.over(num, den, impl.ModeDown)
			}
			if num/den >= greatest {
				greatest, high = num/den, r.over(num, den, impl.ModeUp)
			}
		}
	}
	return r.ends(low, high), true
}

func (r ruler) rootInterval(x impl.Interval) (impl.Interval, bool) {
	low, high := r.values[x.Low], r.values[x.High]
	if low < 0 {
		return impl.Interval{}, false
	}
	return r.ends(r.root(low, impl.ModeDown), r.root(high, impl.ModeUp)), true
}

func (r ruler) polyInterval(coefficients []int, x impl.Interval) impl.Interval {
	result := interval(0, 0)
	for i := len(coefficients) - 1; i >= 0; i-- {
		next := r.ends(coefficients[i], coefficients[i])
		result = r.plusInterval(r.timesInterval(result, x), next)
	}
	return result
}

// countWithin counts each value once.
func (r ruler) countWithin(x impl.Interval) int {
	values := map[float64]bool{}
	for p, value := range r.values {
		if r.finite(p) && r.encloses(x, value) {
			values[value+0] = true
		}
	}
	return len(values)
}

// compareEnd compares the value of an end with a number.
func compareEnd(value float64, number *big.Rat) int {
	if math.IsInf(value, 0) {
		return cmp.Compare(value, 0)
	}
	return new(big.Rat).SetFloat64(value).Cmp(number)
}

// holds reports whether a number is in an interval.
func (r ruler) holds(x impl.Interval, number *big.Rat) bool {
	return compareEnd(r.values[x.Low], number) <= 0 && compareEnd(r.values[x.High], number) >= 0
}

// intervalsBetween returns all intervals with two of the patterns as ends.
func (r ruler) intervalsBetween(patterns []int) []impl.Interval {
	var list []impl.Interval
	for _, low := range patterns {
		for _, high := range patterns {
			if x := interval(low, high); r.isInterval(x) {
				list = append(list, x)
			}
		}
	}
	return list
}

// someIntervals are all of the smallest format. Of others they are those between chosen
// ends of all kinds, and between other ones, the same ones each time, near each other
// and far.
func someIntervals(f impl.Format) []impl.Interval {
	r := rulers()[f]
	if f == smallest {
		return r.intervalsBetween(allPatterns(f))
	}
	half, step := r.signBit(), 1<<f.Fraction
	one, infinite := half/2-step, half-step
	ends := []int{0, 1, one, infinite - 1, infinite, half + 1, half + one + 1, half + infinite - 1, half + infinite}
	list := r.intervalsBetween(ends)
	random := rand.New(rand.NewPCG(9, uint64(16*f.Exponent+f.Fraction)))
	for len(list) < intervalsOf(f) {
		low := random.IntN(infinite)
		high := random.IntN(infinite)
		if len(list)%2 == 0 {
			high = min(low+random.IntN(3), infinite)
		}
		low, high = low+half*random.IntN(2), high+half*random.IntN(2)
		for _, x := range []impl.Interval{interval(low, high), interval(high, low)} {
			if r.isInterval(x) {
				list = append(list, x)
			}
		}
	}
	return list
}

// intervalsOf is how many intervals tests of pairs look at.
func intervalsOf(f impl.Format) int {
	if f == example {
		return 150
	}
	return 70
}

// inside returns finite patterns that have values in an interval: all of the smallest
// format, and otherwise its ends, those beside them, one in the middle, and both zeros.
func (r ruler) inside(x impl.Interval) []int {
	half, last := r.signBit(), len(r.sizes)-2
	list := []int{0, half, 1, half + 1, last, half + last}
	for _, p := range []int{x.Low, x.High, (x.Low%half + x.High%half) / 2} {
		list = append(list, p, p-1, p+1, p^half)
	}
	if r.f == smallest {
		list = allPatterns(r.f)
	}
	slices.Sort(list)
	return slices.DeleteFunc(slices.Compact(list), func(p int) bool {
		return p < 0 || p >= len(r.values) || !r.finite(p) || !r.encloses(x, r.values[p])
	})
}

// intervalArguments has all that a function of chapter 9 may take beside a format: each
// one takes what it has use for.
type intervalArguments struct {
	x, y         impl.Interval
	p            int
	d            impl.Dyadic
	coefficients []int
}

func flatInterval(x impl.Interval, ok bool) ([]int, bool) {
	return results(ok, x.Low, x.High)
}

func flatAnswer(is, ok bool) ([]int, bool) {
	return results(ok, oneIf(is))
}

// intervalCalls are all functions of chapter 9, with what they take beside a format.
// They return their results but the last one in a list, and texts as bytes.
var intervalCalls = []struct {
	what  string
	takes string
	call  func(f impl.Format, x intervalArguments) ([]int, bool)
}{
	{"IsInterval", "", func(f impl.Format, x intervalArguments) ([]int, bool) {
		return flatAnswer(impl.IsInterval(f, x.x))
	}},
	{"PointInterval", "p", func(f impl.Format, x intervalArguments) ([]int, bool) {
		return flatInterval(impl.PointInterval(f, x.p))
	}},
	{"AroundDyadic", "d", func(f impl.Format, x intervalArguments) ([]int, bool) {
		return flatInterval(impl.AroundDyadic(f, x.d))
	}},
	{"Encloses", "x p", func(f impl.Format, x intervalArguments) ([]int, bool) {
		return flatAnswer(impl.Encloses(f, x.x, x.p))
	}},
	{"IsWithin", "x y", func(f impl.Format, x intervalArguments) ([]int, bool) {
		return flatAnswer(impl.IsWithin(f, x.x, x.y))
	}},
	{"HullOf", "x y", func(f impl.Format, x intervalArguments) ([]int, bool) {
		return flatInterval(impl.HullOf(f, x.x, x.y))
	}},
	{"MeetOf", "x y", func(f impl.Format, x intervalArguments) ([]int, bool) {
		return flatInterval(impl.MeetOf(f, x.x, x.y))
	}},
	{"PlusInterval", "x y", func(f impl.Format, x intervalArguments) ([]int, bool) {
		return flatInterval(impl.PlusInterval(f, x.x, x.y))
	}},
	{"LessInterval", "x y", func(f impl.Format, x intervalArguments) ([]int, bool) {
		return flatInterval(impl.LessInterval(f, x.x, x.y))
	}},
	{"TimesInterval", "x y", func(f impl.Format, x intervalArguments) ([]int, bool) {
		return flatInterval(impl.TimesInterval(f, x.x, x.y))
	}},
	{"DivideInterval", "x y", func(f impl.Format, x intervalArguments) ([]int, bool) {
		return flatInterval(impl.DivideInterval(f, x.x, x.y))
	}},
	{"RootInterval", "x", func(f impl.Format, x intervalArguments) ([]int, bool) {
		return flatInterval(impl.RootInterval(f, x.x))
	}},
	{"PolyInterval", "coefficients x", func(f impl.Format, x intervalArguments) ([]int, bool) {
		return flatInterval(impl.PolyInterval(f, x.coefficients, x.x))
	}},
	{"CountWithin", "x", func(f impl.Format, x intervalArguments) ([]int, bool) {
		n, ok := impl.CountWithin(f, x.x)
		return results(ok, n)
	}},
	{"IntervalText", "x", func(f impl.Format, x intervalArguments) ([]int, bool) {
		text, ok := impl.IntervalText(f, x.x)
		return results(ok, bytesOf(text)...)
	}},
}

func bytesOf(text string) []int {
	var list []int
	for i := range len(text) {
		list = append(list, int(text[i]))
	}
	return list
}

// intervalCall returns a function of intervalCalls.
func intervalCall(t *testing.T, name string) func(impl.Format, intervalArguments) ([]int, bool) {
	t.Helper()
	for _, c := range intervalCalls {
		if c.what == name {
			return c.call
		}
	}
	t.Fatal("there is no", name)
	return nil
}

// plainInterval are arguments that all functions take, in all formats.
func plainInterval() intervalArguments {
	return intervalArguments{
		x:            interval(0, 2),
		y:            interval(1, 3),
		p:            2,
		d:            impl.Dyadic{Num: 5, Exp: -2},
		coefficients: []int{1, 0, 2},
	}
}

func wantInterval(t *testing.T, what string, f impl.Format, arguments any, got impl.Interval, ok bool, want impl.Interval, fine bool) {
	t.Helper()
	if ok != fine || got != want {
		t.Fatalf("%s of %v and %v: got %v, %v, want %v, %v", what, f, arguments, got, ok, want, fine)
	}
}
