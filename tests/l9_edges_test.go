package tests

import (
	"slices"
	"testing"

	"loop.example/g01178/impl"
)

// intervalEdge is a call with its results, nil for a call that fails.
type intervalEdge struct {
	x    intervalArguments
	want []int
}

func checkIntervalEdges(t *testing.T, what string, f impl.Format, edges []intervalEdge) {
	t.Helper()
	call := intervalCall(t, what)
	for _, c := range edges {
		got, ok := call(f, c.x)
		wantResults(t, what, f, c.x, got, ok, c.want, c.want != nil)
	}
}

// from has an interval, and fromTwo a second one.
func from(low, high int) intervalArguments {
	return intervalArguments{x: interval(low, high)}
}

func fromTwo(low, high, secondLow, secondHigh int) intervalArguments {
	return intervalArguments{x: interval(low, high), y: interval(secondLow, secondHigh)}
}

// More patterns of the format with 4 and 3.
const (
	six        = 76
	nine       = 81
	minusTwo   = two + minusZero
	minusThree = three + minusZero
	minusFour  = four + minusZero
	minusSix   = six + minusZero
	minusNine  = nine + minusZero
	belowMost  = greatest - 1
)

// ends are those of a result.
func ends(low, high int) []int {
	return []int{low, high}
}

// Answers of calls that many edges have.
var (
	answerYes = []int{1}
	answerNo  = []int{0}
)

func TestIntervalExample(t *testing.T) {
	checkIntervalEdges(t, "PlusInterval", example, []intervalEdge{{fromTwo(sixteen, sixteen, one, one), ends(sixteen, eighteen)}})
	// 42 is 5 / 16 and 43 is 11 / 32.
	checkIntervalEdges(t, "DivideInterval", example, []intervalEdge{{fromTwo(one, one, three, three), ends(42, 43)}})
	checkIntervalEdges(t, "CountWithin", example, []intervalEdge{{from(one, two), []int{9}}})
	checkIntervalEdges(t, "IntervalText", example, []intervalEdge{{from(sixteen, sixteen), bytesOf("[16e0,16e0]")}})
}

func TestIsIntervalAtEdges(t *testing.T) {
	checkIntervalEdges(t, "IsInterval", example, []intervalEdge{
		{from(plusZero, plusZero), answerYes},
		{from(one, one), answerYes},
		{from(minusOne, minusOne), answerYes},
		{from(minusUnit, unit), answerYes},
		{from(one, two), answerYes},
		{from(minusTwo, minusOne), answerYes},
		{from(minusGreatest, greatest), answerYes},
		{from(minusInfinite, infinite), answerYes},
		{from(minusInfinite, minusGreatest), answerYes},
		{from(minusInfinite, plusZero), answerYes},
		{from(greatest, infinite), answerYes},
		{from(plusZero, infinite), answerYes},
		{from(infinite, infinite), answerNo},
		{from(minusInfinite, minusInfinite), answerNo},
		{from(infinite, minusInfinite), answerNo},
		{from(infinite, greatest), answerNo},
		{from(minusGreatest, minusInfinite), answerNo},
		{from(two, one), answerNo},
		{from(minusOne, minusTwo), answerNo},
		{from(unit, minusUnit), answerNo},
		{from(unit, plusZero), answerNo},
		{from(plusZero, minusUnit), answerNo},
		{from(minusZero, minusZero), answerNo},
		{from(minusZero, plusZero), answerNo},
		{from(plusZero, minusZero), answerNo},
		{from(minusZero, one), answerNo},
		{from(minusOne, minusZero), answerNo},
		{from(minusInfinite, minusZero), answerNo},
		{from(quiet, quiet), answerNo},
		{from(one, noNumber), answerNo},
		{from(minusNoNumber, one), answerNo},
		{from(minusInfinite, quiet), answerNo},
		{from(-1, one), answerNo},
		{from(one, 256), answerNo},
		{from(256, 256), answerNo},
	})
}

// pattern has a pattern, and in is one in an interval.
func pattern(p int) intervalArguments {
	return intervalArguments{p: p}
}

func in(p, low, high int) intervalArguments {
	return intervalArguments{x: interval(low, high), p: p}
}

func TestPointIntervalAtEdges(t *testing.T) {
	checkIntervalEdges(t, "PointInterval", example, []intervalEdge{
		{pattern(plusZero), ends(plusZero, plusZero)},
		{pattern(minusZero), ends(plusZero, plusZero)},
		{pattern(unit), ends(unit, unit)},
		{pattern(minusUnit), ends(minusUnit, minusUnit)},
		{pattern(greatest), ends(greatest, greatest)},
		{pattern(minusGreatest), ends(minusGreatest, minusGreatest)},
		{pattern(infinite), nil},
		{pattern(minusInfinite), nil},
		{pattern(quiet), nil},
		{pattern(noNumber), nil},
		{pattern(minusNoNumber), nil},
		{pattern(-1), nil},
		{pattern(256), nil},
	})
}

func around(n, exp int) intervalArguments {
	return intervalArguments{d: num(n, exp)}
}

func TestAroundDyadicAtEdges(t *testing.T) {
	checkIntervalEdges(t, "AroundDyadic", example, []intervalEdge{
		{around(0, 0), ends(plusZero, plusZero)},
		{around(1, 0), ends(one, one)},
		{around(-1, 0), ends(minusOne, minusOne)},
		{around(1, -9), ends(unit, unit)},
		{around(-1, -9), ends(minusUnit, minusUnit)},
		{around(15, 4), ends(greatest, greatest)},
		{around(-15, 4), ends(minusGreatest, minusGreatest)},
		{around(17, 0), ends(sixteen, eighteen)},
		{around(-17, 0), ends(eighteen+minusZero, minusSixteen)},
		{around(16<<44+1, -44), ends(sixteen, eighteen)},
		{around(18<<44-1, -44), ends(sixteen, eighteen)},
		{around(3, -10), ends(unit, 2)},
		{around(1, -10), ends(plusZero, unit)},
		{around(-1, -10), ends(minusUnit, plusZero)},
		{around(1, -100), ends(plusZero, unit)},
		{around(-1, -100), ends(minusUnit, plusZero)},
		{around(impl.MaxNum-1, -59), ends(plusZero, unit)},
		{around(-impl.MaxNum+1, -59), ends(minusUnit, plusZero)},
		{around(239, 0), ends(belowMost, greatest)},
		{around(240<<42-1, -42), ends(belowMost, greatest)},
		{around(240<<42+1, -42), ends(greatest, infinite)},
		{around(241, 0), ends(greatest, infinite)},
		{around(31, 3), ends(greatest, infinite)},
		{around(1, 8), ends(greatest, infinite)},
		{around(1, 100), ends(greatest, infinite)},
		{around(-239, 0), ends(minusGreatest, belowMost+minusZero)},
		{around(-240<<42-1, -42), ends(minusInfinite, minusGreatest)},
		{around(-1, 8), ends(minusInfinite, minusGreatest)},
		{around(-impl.MaxNum+1, 100), ends(minusInfinite, minusGreatest)},
		{around(2, 0), nil},
		{around(0, 1), nil},
		{around(1, 101), nil},
	})
}

func TestEnclosesAtEdges(t *testing.T) {
	checkIntervalEdges(t, "Encloses", example, []intervalEdge{
		{in(one, one, one), answerYes},
		{in(57, one, one), answerNo},
		{in(55, one, one), answerNo},
		{in(minusOne, one, one), answerNo},
		{in(two, one, two), answerYes},
		{in(65, one, two), answerNo},
		{in(unit, unit, infinite), answerYes},
		{in(greatest, one, infinite), answerYes},
		{in(greatest, greatest, infinite), answerYes},
		{in(belowMost, greatest, infinite), answerNo},
		{in(minusGreatest, minusInfinite, minusGreatest), answerYes},
		{in(minusGreatest, minusInfinite, infinite), answerYes},
		{in(one, minusInfinite, minusUnit), answerNo},
		{in(infinite, one, infinite), nil},
		{in(minusInfinite, minusInfinite, infinite), nil},
		{in(quiet, minusInfinite, infinite), nil},
		{in(256, minusInfinite, infinite), nil},
		{in(one, two, one), nil},
		{in(one, infinite, infinite), nil},
	})
	for _, zero := range []int{plusZero, minusZero} {
		checkIntervalEdges(t, "Encloses", example, []intervalEdge{
			{in(zero, plusZero, plusZero), answerYes},
			{in(zero, minusUnit, unit), answerYes},
			{in(zero, minusOne, plusZero), answerYes},
			{in(zero, plusZero, one), answerYes},
			{in(zero, minusInfinite, infinite), answerYes},
			{in(zero, minusInfinite, plusZero), answerYes},
			{in(zero, unit, infinite), answerNo},
			{in(zero, minusInfinite, minusUnit), answerNo},
			{in(zero, minusZero, plusZero), nil},
			{in(zero, minusZero, one), nil},
		})
	}
}

func TestIsWithinAtEdges(t *testing.T) {
	for _, x := range someIntervals(example) {
		checkIntervalEdges(t, "IsWithin", example, []intervalEdge{
			{fromTwo(x.Low, x.High, x.Low, x.High), answerYes},
			{fromTwo(x.Low, x.High, minusInfinite, infinite), answerYes},
			{fromTwo(minusInfinite, infinite, x.Low, x.High), []int{oneIf(x == interval(minusInfinite, infinite))}},
		})
	}
	checkIntervalEdges(t, "IsWithin", example, []intervalEdge{
		{fromTwo(one, two, one, three), answerYes},
		{fromTwo(one, two, plusZero, two), answerYes},
		{fromTwo(one, three, one, two), answerNo},
		{fromTwo(plusZero, two, one, two), answerNo},
		{fromTwo(one, one, two, three), answerNo},
		{fromTwo(minusOne, minusOne, minusTwo, minusOne), answerYes},
		{fromTwo(minusTwo, minusOne, minusOne, plusZero), answerNo},
		{fromTwo(plusZero, plusZero, minusUnit, plusZero), answerYes},
		{fromTwo(plusZero, plusZero, unit, infinite), answerNo},
		{fromTwo(one, greatest, one, infinite), answerYes},
		{fromTwo(one, infinite, one, greatest), answerNo},
		{fromTwo(greatest, infinite, one, infinite), answerYes},
		{fromTwo(one, infinite, greatest, infinite), answerNo},
		{fromTwo(minusInfinite, minusOne, minusInfinite, one), answerYes},
		{fromTwo(minusInfinite, minusOne, minusGreatest, one), answerNo},
	})
}

func TestHullOfAtEdges(t *testing.T) {
	checkIntervalEdges(t, "HullOf", example, []intervalEdge{
		{fromTwo(one, one, one, one), ends(one, one)},
		{fromTwo(plusZero, plusZero, plusZero, plusZero), ends(plusZero, plusZero)},
		// Apart from each other.
		{fromTwo(one, two, three, four), ends(one, four)},
		{fromTwo(three, four, one, two), ends(one, four)},
		{fromTwo(minusGreatest, minusGreatest, greatest, greatest), ends(minusGreatest, greatest)},
		{fromTwo(unit, unit, minusUnit, minusUnit), ends(minusUnit, unit)},
		{fromTwo(minusUnit, minusUnit, plusZero, plusZero), ends(minusUnit, plusZero)},
		{fromTwo(minusInfinite, minusOne, one, infinite), ends(minusInfinite, infinite)},
		{fromTwo(greatest, infinite, minusOne, minusOne), ends(minusOne, infinite)},
		// One within the other one, and with common numbers.
		{fromTwo(one, four, two, three), ends(one, four)},
		{fromTwo(two, three, one, four), ends(one, four)},
		{fromTwo(one, three, two, four), ends(one, four)},
		{fromTwo(two, four, one, three), ends(one, four)},
		{fromTwo(minusInfinite, infinite, one, one), ends(minusInfinite, infinite)},
		{fromTwo(minusInfinite, one, minusInfinite, two), ends(minusInfinite, two)},
	})
}

func TestMeetOfAtEdges(t *testing.T) {
	checkIntervalEdges(t, "MeetOf", example, []intervalEdge{
		{fromTwo(one, one, one, one), ends(one, one)},
		{fromTwo(one, four, two, three), ends(two, three)},
		{fromTwo(two, three, one, four), ends(two, three)},
		{fromTwo(one, three, two, four), ends(two, three)},
		{fromTwo(two, four, one, three), ends(two, three)},
		// One common number.
		{fromTwo(one, two, two, three), ends(two, two)},
		{fromTwo(two, three, one, two), ends(two, two)},
		{fromTwo(minusInfinite, plusZero, plusZero, infinite), ends(plusZero, plusZero)},
		{fromTwo(minusOne, one, plusZero, plusZero), ends(plusZero, plusZero)},
		{fromTwo(greatest, infinite, one, greatest), ends(greatest, greatest)},
		// None, though there is no value between these.
		{fromTwo(one, two, 65, four), nil},
		{fromTwo(one, two, three, four), nil},
		{fromTwo(three, four, one, two), nil},
		{fromTwo(minusInfinite, minusUnit, plusZero, infinite), nil},
		{fromTwo(unit, infinite, minusInfinite, plusZero), nil},
		{fromTwo(minusOne, minusOne, one, one), nil},
		{fromTwo(minusInfinite, infinite, one, two), ends(one, two)},
		{fromTwo(minusInfinite, infinite, minusInfinite, infinite), ends(minusInfinite, infinite)},
		{fromTwo(greatest, infinite, minusInfinite, infinite), ends(greatest, infinite)},
		{fromTwo(one, infinite, two, infinite), ends(two, infinite)},
		{fromTwo(minusInfinite, minusOne, minusInfinite, minusTwo), ends(minusInfinite, minusTwo)},
	})
}

func TestPlusIntervalAtEdges(t *testing.T) {
	checkIntervalEdges(t, "PlusInterval", example, []intervalEdge{
		{fromTwo(one, two, one, one), ends(two, three)},
		{fromTwo(minusSixteen, minusSixteen, minusOne, minusOne), ends(eighteen+minusZero, minusSixteen)},
		{fromTwo(sixteen, sixteen, one, two), ends(sixteen, eighteen)},
		// Sums that are 0.
		{fromTwo(plusZero, plusZero, plusZero, plusZero), ends(plusZero, plusZero)},
		{fromTwo(one, one, minusOne, minusOne), ends(plusZero, plusZero)},
		{fromTwo(minusUnit, unit, unit, unit), ends(plusZero, 2)},
		{fromTwo(minusUnit, unit, minusUnit, minusUnit), ends(130, plusZero)},
		// Beyond the greatest finite value.
		{fromTwo(greatest, greatest, unit, unit), ends(greatest, infinite)},
		{fromTwo(greatest, greatest, greatest, greatest), ends(greatest, infinite)},
		{fromTwo(minusGreatest, minusGreatest, minusUnit, minusUnit), ends(minusInfinite, minusGreatest)},
		{fromTwo(minusGreatest, greatest, minusGreatest, greatest), ends(minusInfinite, infinite)},
		{fromTwo(minusGreatest, greatest, plusZero, plusZero), ends(minusGreatest, greatest)},
		// Infinite ends.
		{fromTwo(one, infinite, one, two), ends(two, infinite)},
		{fromTwo(one, infinite, one, infinite), ends(two, infinite)},
		{fromTwo(minusInfinite, one, minusInfinite, one), ends(minusInfinite, two)},
		{fromTwo(minusInfinite, one, one, infinite), ends(minusInfinite, infinite)},
		{fromTwo(one, infinite, minusInfinite, one), ends(minusInfinite, infinite)},
		{fromTwo(minusInfinite, minusGreatest, greatest, greatest), ends(minusInfinite, plusZero)},
		{fromTwo(greatest, infinite, minusGreatest, minusGreatest), ends(plusZero, infinite)},
		{fromTwo(greatest, infinite, greatest, infinite), ends(greatest, infinite)},
		{fromTwo(minusInfinite, minusGreatest, minusGreatest, minusOne), ends(minusInfinite, minusGreatest)},
		{fromTwo(minusInfinite, infinite, plusZero, plusZero), ends(minusInfinite, infinite)},
	})
}

func TestLessIntervalAtEdges(t *testing.T) {
	checkIntervalEdges(t, "LessInterval", example, []intervalEdge{
		{fromTwo(two, three, one, one), ends(one, two)},
		{fromTwo(sixteen, sixteen, minusOne, minusOne), ends(sixteen, eighteen)},
		{fromTwo(one, two, one, two), ends(minusOne, one)},
		{fromTwo(plusZero, plusZero, plusZero, plusZero), ends(plusZero, plusZero)},
		{fromTwo(one, one, one, one), ends(plusZero, plusZero)},
		{fromTwo(minusOne, minusOne, minusOne, minusOne), ends(plusZero, plusZero)},
		{fromTwo(minusOne, minusOne, plusZero, plusZero), ends(minusOne, minusOne)},
		{fromTwo(plusZero, plusZero, one, two), ends(minusTwo, minusOne)},
		{fromTwo(greatest, greatest, minusUnit, minusUnit), ends(greatest, infinite)},
		{fromTwo(minusGreatest, minusGreatest, unit, unit), ends(minusInfinite, minusGreatest)},
		{fromTwo(minusGreatest, greatest, minusGreatest, greatest), ends(minusInfinite, infinite)},
		{fromTwo(one, infinite, one, two), ends(minusOne, infinite)},
		{fromTwo(one, infinite, one, infinite), ends(minusInfinite, infinite)},
		{fromTwo(minusInfinite, one, minusInfinite, one), ends(minusInfinite, infinite)},
		{fromTwo(one, infinite, minusInfinite, one), ends(plusZero, infinite)},
		{fromTwo(minusInfinite, one, one, infinite), ends(minusInfinite, plusZero)},
		{fromTwo(one, one, one, infinite), ends(minusInfinite, plusZero)},
		{fromTwo(one, one, minusInfinite, one), ends(plusZero, infinite)},
		{fromTwo(minusInfinite, infinite, one, one), ends(minusInfinite, infinite)},
	})
}

func TestTimesIntervalWithSigns(t *testing.T) {
	checkIntervalEdges(t, "TimesInterval", example, []intervalEdge{
		{fromTwo(two, three, two, three), ends(four, nine)},
		{fromTwo(minusThree, minusTwo, two, three), ends(minusNine, minusFour)},
		{fromTwo(two, three, minusThree, minusTwo), ends(minusNine, minusFour)},
		{fromTwo(minusThree, minusTwo, minusThree, minusTwo), ends(four, nine)},
		{fromTwo(minusThree, two, two, three), ends(minusNine, six)},
		{fromTwo(minusThree, two, minusThree, minusTwo), ends(minusSix, nine)},
		{fromTwo(minusTwo, three, two, three), ends(minusSix, nine)},
		{fromTwo(minusThree, two, minusTwo, three), ends(minusNine, six)},
		{fromTwo(minusThree, two, minusThree, two), ends(minusSix, nine)},
		{fromTwo(minusTwo, three, minusThree, two), ends(minusNine, six)},
		{fromTwo(plusZero, two, minusThree, three), ends(minusSix, six)},
		{fromTwo(minusTwo, plusZero, plusZero, three), ends(minusSix, plusZero)},
		{fromTwo(minusTwo, plusZero, minusThree, plusZero), ends(plusZero, six)},
		{fromTwo(minusOne, one, plusZero, plusZero), ends(plusZero, plusZero)},
		{fromTwo(minusTwo, minusOne, plusZero, plusZero), ends(plusZero, plusZero)},
		// 9 / 8 times 9 / 8 is 81 / 64, between 5 / 4 and 11 / 8.
		{fromTwo(57, 57, 57, 57), ends(58, 59)},
		{fromTwo(185, 185, 57, 57), ends(187, 186)},
	})
}

func TestTimesIntervalAtEdges(t *testing.T) {
	checkIntervalEdges(t, "TimesInterval", example, []intervalEdge{
		// Less than the unit.
		{fromTwo(unit, unit, unit, unit), ends(plusZero, unit)},
		{fromTwo(minusUnit, minusUnit, unit, unit), ends(minusUnit, plusZero)},
		{fromTwo(minusUnit, unit, unit, unit), ends(minusUnit, unit)},
		// Beyond the greatest finite value.
		{fromTwo(greatest, greatest, two, two), ends(greatest, infinite)},
		{fromTwo(minusGreatest, minusGreatest, two, two), ends(minusInfinite, minusGreatest)},
		{fromTwo(minusGreatest, greatest, greatest, greatest), ends(minusInfinite, infinite)},
		// The product of a zero and an infinite end is a zero.
		{fromTwo(plusZero, plusZero, minusInfinite, infinite), ends(plusZero, plusZero)},
		{fromTwo(minusInfinite, infinite, plusZero, plusZero), ends(plusZero, plusZero)},
		{fromTwo(plusZero, plusZero, one, infinite), ends(plusZero, plusZero)},
		{fromTwo(plusZero, one, one, infinite), ends(plusZero, infinite)},
		{fromTwo(plusZero, one, minusInfinite, minusOne), ends(minusInfinite, plusZero)},
		{fromTwo(minusOne, plusZero, one, infinite), ends(minusInfinite, plusZero)},
		{fromTwo(minusInfinite, plusZero, plusZero, infinite), ends(minusInfinite, plusZero)},
		{fromTwo(minusInfinite, plusZero, minusInfinite, plusZero), ends(plusZero, infinite)},
		{fromTwo(plusZero, infinite, plusZero, infinite), ends(plusZero, infinite)},
		{fromTwo(plusZero, infinite, minusInfinite, infinite), ends(minusInfinite, infinite)},
		// Other infinite ends.
		{fromTwo(one, infinite, two, three), ends(two, infinite)},
		{fromTwo(one, infinite, minusTwo, three), ends(minusInfinite, infinite)},
		{fromTwo(two, infinite, three, infinite), ends(six, infinite)},
		{fromTwo(minusInfinite, minusTwo, three, infinite), ends(minusInfinite, minusSix)},
		{fromTwo(minusInfinite, minusTwo, minusInfinite, minusThree), ends(six, infinite)},
		{fromTwo(minusInfinite, two, minusInfinite, three), ends(minusInfinite, infinite)},
		{fromTwo(minusInfinite, infinite, minusInfinite, infinite), ends(minusInfinite, infinite)},
		{fromTwo(minusInfinite, infinite, unit, unit), ends(minusInfinite, infinite)},
		{fromTwo(greatest, infinite, two, infinite), ends(greatest, infinite)},
	})
}

func TestDivideIntervalAtEdges(t *testing.T) {
	checkIntervalEdges(t, "DivideInterval", example, []intervalEdge{
		{fromTwo(four, six, one, two), ends(two, six)},
		{fromTwo(minusSix, minusFour, one, two), ends(minusSix, minusTwo)},
		{fromTwo(four, six, minusTwo, minusOne), ends(minusSix, minusTwo)},
		{fromTwo(minusSix, minusFour, minusTwo, minusOne), ends(two, six)},
		{fromTwo(minusFour, six, one, two), ends(minusFour, six)},
		{fromTwo(minusFour, six, minusTwo, minusOne), ends(minusSix, four)},
		{fromTwo(one, one, minusThree, minusThree), ends(43+minusZero, 42+minusZero)},
		{fromTwo(plusZero, plusZero, one, two), ends(plusZero, plusZero)},
		{fromTwo(plusZero, plusZero, minusTwo, minusOne), ends(plusZero, plusZero)},
		{fromTwo(plusZero, plusZero, one, infinite), ends(plusZero, plusZero)},
		// Less than the unit.
		{fromTwo(unit, unit, greatest, greatest), ends(plusZero, unit)},
		{fromTwo(minusUnit, minusUnit, greatest, greatest), ends(minusUnit, plusZero)},
		{fromTwo(minusUnit, minusUnit, minusGreatest, minusGreatest), ends(plusZero, unit)},
		// One infinite end, and two.
		{fromTwo(one, two, one, infinite), ends(plusZero, two)},
		{fromTwo(one, two, minusInfinite, minusOne), ends(minusTwo, plusZero)},
		{fromTwo(minusTwo, minusOne, one, infinite), ends(minusTwo, plusZero)},
		{fromTwo(one, infinite, two, two), ends(48, infinite)},
		{fromTwo(one, infinite, minusTwo, minusTwo), ends(minusInfinite, 48+minusZero)},
		{fromTwo(one, infinite, one, infinite), ends(plusZero, infinite)},
		{fromTwo(minusInfinite, minusOne, one, infinite), ends(minusInfinite, plusZero)},
		{fromTwo(minusInfinite, minusOne, minusInfinite, minusOne), ends(plusZero, infinite)},
		{fromTwo(one, infinite, minusInfinite, minusOne), ends(minusInfinite, plusZero)},
		{fromTwo(minusInfinite, infinite, one, infinite), ends(minusInfinite, infinite)},
		{fromTwo(minusInfinite, infinite, minusInfinite, minusOne), ends(minusInfinite, infinite)},
		{fromTwo(minusInfinite, infinite, greatest, greatest), ends(minusInfinite, infinite)},
	})
}

// TestDivideIntervalAtZero: where y has the number 0, and where it lies close beside it.
func TestDivideIntervalAtZero(t *testing.T) {
	for _, x := range []impl.Interval{interval(plusZero, plusZero), interval(one, two), interval(minusInfinite, infinite), interval(minusUnit, unit)} {
		for _, y := range []impl.Interval{
			interval(plusZero, plusZero), interval(plusZero, unit), interval(minusUnit, plusZero), interval(minusUnit, unit), interval(minusOne, two),
			interval(plusZero, infinite), interval(minusInfinite, plusZero), interval(minusInfinite, infinite), interval(minusGreatest, unit),
		} {
			checkIntervalEdges(t, "DivideInterval", example, []intervalEdge{{intervalArguments{x: x, y: y}, nil}})
		}
	}
	checkIntervalEdges(t, "DivideInterval", example, []intervalEdge{
		// 1 divided by the unit is 512.
		{fromTwo(one, one, unit, unit), ends(greatest, infinite)},
		{fromTwo(minusOne, minusOne, unit, unit), ends(minusInfinite, minusGreatest)},
		{fromTwo(one, one, minusUnit, minusUnit), ends(minusInfinite, minusGreatest)},
		{fromTwo(minusOne, minusOne, minusUnit, minusUnit), ends(greatest, infinite)},
		{fromTwo(minusOne, one, unit, unit), ends(minusInfinite, infinite)},
		{fromTwo(one, one, unit, infinite), ends(plusZero, infinite)},
		{fromTwo(one, one, minusInfinite, minusUnit), ends(minusInfinite, plusZero)},
		{fromTwo(plusZero, plusZero, unit, infinite), ends(plusZero, plusZero)},
		{fromTwo(plusZero, one, unit, one), ends(plusZero, infinite)},
		{fromTwo(unit, unit, unit, unit), ends(one, one)},
		{fromTwo(unit, 3, unit, 2), ends(48, three)},
		{fromTwo(greatest, greatest, unit, unit), ends(greatest, infinite)},
	})
}

func TestRootIntervalAtEdges(t *testing.T) {
	checkIntervalEdges(t, "RootInterval", example, []intervalEdge{
		{from(plusZero, plusZero), ends(plusZero, plusZero)},
		{from(four, sixteen), ends(two, four)},
		{from(nine, nine), ends(three, three)},
		// No exact root.
		{from(two, two), ends(59, 60)},
		{from(two, three), ends(59, 62)},
		{from(unit, unit), ends(19, 20)},
		{from(greatest, greatest), ends(87, sixteen)},
		{from(plusZero, two), ends(plusZero, 60)},
		{from(two, sixteen), ends(59, four)},
		{from(plusZero, infinite), ends(plusZero, infinite)},
		{from(two, infinite), ends(59, infinite)},
		{from(greatest, infinite), ends(87, infinite)},
		{from(minusUnit, plusZero), nil},
		{from(minusUnit, one), nil},
		{from(minusOne, minusOne), nil},
		{from(minusInfinite, plusZero), nil},
		{from(minusInfinite, infinite), nil},
		{from(minusZero, one), nil},
		{from(minusZero, minusZero), nil},
	})
}

func poly(low, high int, coefficients ...int) intervalArguments {
	return intervalArguments{x: interval(low, high), coefficients: coefficients}
}

func TestPolyIntervalAtEdges(t *testing.T) {
	checkIntervalEdges(t, "PolyInterval", example, []intervalEdge{
		{poly(one, two), ends(plusZero, plusZero)},
		{poly(minusInfinite, infinite), ends(plusZero, plusZero)},
		{poly(one, two, []int{}...), ends(plusZero, plusZero)},
		{poly(one, two, three), ends(three, three)},
		{poly(minusInfinite, infinite, three), ends(three, three)},
		{poly(one, two, minusZero), ends(plusZero, plusZero)},
		{poly(one, two, minusZero, minusZero), ends(plusZero, plusZero)},
		{poly(one, two, one, one), ends(two, three)},
		{poly(two, two, plusZero, one), ends(two, two)},
		{poly(two, two, one, plusZero), ends(one, one)},
		{poly(one, one, sixteen, one), ends(sixteen, eighteen)},
		// From 1 to 1, from 0 to 2, and from -1 to 3: the first coefficient comes last.
		{poly(minusOne, one, one, one, one), ends(minusOne, three)},
		{poly(minusOne, one, minusOne, one, one), ends(minusThree, one)},
		{poly(one, one, one, one, one, one, one, one), ends(six, six)},
		{poly(one, one, one, one, one, one, one, one, one), nil},
		{poly(one, one, slices.Repeat([]int{plusZero}, 7)...), nil},
		{poly(one, one, slices.Repeat([]int{plusZero}, 1000)...), nil},
		// With infinite ends.
		{poly(minusInfinite, one, one, one), ends(minusInfinite, two)},
		{poly(one, infinite, one, one), ends(two, infinite)},
		{poly(one, infinite, one, minusOne), ends(minusInfinite, plusZero)},
		{poly(minusInfinite, infinite, one, plusZero), ends(one, one)},
		{poly(minusInfinite, infinite, one, plusZero, one), ends(minusInfinite, infinite)},
		{poly(greatest, greatest, one, one, one), ends(greatest, infinite)},
		// Infinite patterns and no numbers are no coefficients.
		{poly(one, one, infinite), nil},
		{poly(one, one, minusInfinite, one), nil},
		{poly(one, one, one, quiet), nil},
		{poly(one, one, noNumber, one, one), nil},
		{poly(one, one, one, -1), nil},
		{poly(one, one, 256, one), nil},
		{poly(two, one), nil},
		{poly(minusZero, one), nil},
		{poly(infinite, infinite), nil},
	})
}

func TestCountWithinAtEdges(t *testing.T) {
	checkIntervalEdges(t, "CountWithin", example, []intervalEdge{
		{from(one, one), []int{1}},
		{from(plusZero, plusZero), []int{1}},
		{from(minusGreatest, minusGreatest), []int{1}},
		{from(unit, 2), []int{2}},
		// Both zeros are one value.
		{from(minusUnit, unit), []int{3}},
		{from(minusUnit, plusZero), []int{2}},
		{from(plusZero, unit), []int{2}},
		{from(minusOne, one), []int{113}},
		{from(minusTwo, minusOne), []int{9}},
		{from(minusGreatest, greatest), []int{239}},
		{from(minusInfinite, infinite), []int{239}},
		{from(minusInfinite, greatest), []int{239}},
		{from(plusZero, infinite), []int{120}},
		{from(minusInfinite, plusZero), []int{120}},
		{from(unit, infinite), []int{119}},
		{from(minusInfinite, minusUnit), []int{119}},
		{from(greatest, infinite), []int{1}},
		{from(minusInfinite, minusGreatest), []int{1}},
		{from(infinite, infinite), nil},
		{from(minusZero, plusZero), nil},
		{from(two, one), nil},
	})
	const most = 31<<10 - 1
	checkIntervalEdges(t, "CountWithin", largest, []intervalEdge{
		{from(minusInLargest+most, most), []int{2*most + 1}},
		{from(minusInLargest+most+1, most+1), []int{2*most + 1}},
		{from(most, most+1), []int{1}},
	})
}

func TestIntervalTextAtEdges(t *testing.T) {
	checkIntervalEdges(t, "IntervalText", example, []intervalEdge{
		{from(plusZero, plusZero), bytesOf("[0e0,0e0]")},
		{from(minusOne, one), bytesOf("[-1e0,1e0]")},
		{from(minusUnit, unit), bytesOf("[-2e-3,2e-3]")},
		{from(minusUnit, plusZero), bytesOf("[-2e-3,0e0]")},
		{from(sixteen, eighteen), bytesOf("[16e0,18e0]")},
		{from(minusGreatest, greatest), bytesOf("[-24e1,24e1]")},
		{from(minusInfinite, infinite), bytesOf("[-inf,inf]")},
		{from(minusInfinite, plusZero), bytesOf("[-inf,0e0]")},
		{from(plusZero, infinite), bytesOf("[0e0,inf]")},
		{from(63, infinite), bytesOf("[19e-1,inf]")},
		{from(minusZero, plusZero), nil},
		{from(plusZero, minusZero), nil},
		{from(quiet, quiet), nil},
		{from(infinite, infinite), nil},
		{from(two, one), nil},
	})
}
