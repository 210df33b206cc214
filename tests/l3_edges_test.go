package tests

import (
	"testing"

	"loop.example/g01178/impl"
)

// Patterns of the format with 4 and 3 that the tables below name.
const (
	plusZero      = 0
	minusZero     = 128
	unit          = 1
	minusUnit     = 129
	one           = 56
	minusOne      = 184
	two           = 64
	three         = 68
	sixteen       = 88
	eighteen      = 89
	greatest      = 119
	minusGreatest = 247
	infinite      = 120
	minusInfinite = 248
	quiet         = 124
	noNumber      = 121
	minusNoNumber = 255
)

// byMode has results in the order of the modes: even, away, zero, up, down, odd.
type byMode [6]int

func always(p int) byMode {
	return byMode{p, p, p, p, p, p}
}

// zeroByMode is the zero whose sign the mode tells.
var zeroByMode = byMode{plusZero, plusZero, plusZero, plusZero, minusZero, plusZero}

// tinyByMode and minusTinyByMode are the results of less than half of a unit.
var (
	tinyByMode      = byMode{plusZero, plusZero, plusZero, unit, plusZero, unit}
	minusTinyByMode = byMode{minusZero, minusZero, minusZero, minusZero, minusUnit, minusUnit}
)

type ofTwo func(f impl.Format, a int, b int, mode int) (int, bool)

type caseOfTwo struct {
	a, b int
	want byMode
}

func checkOfTwo(t *testing.T, what string, call ofTwo, cases []caseOfTwo) {
	t.Helper()
	for _, c := range cases {
		for i, mode := range modes {
			got, ok := call(example, c.a, c.b, mode)
			wantResult(t, what, example, mode, got, ok, c.want[i], c.a, c.b)
		}
	}
}

// checkNoNumbers wants quiet results for a no number in each place.
func checkNoNumbers(t *testing.T, what string, call ofTwo) {
	t.Helper()
	for _, none := range []int{noNumber, quiet, 127, 249, minusNoNumber} {
		for _, p := range []int{plusZero, minusZero, unit, one, minusGreatest, infinite, minusInfinite, noNumber, minusNoNumber} {
			checkOfTwo(t, what, call, []caseOfTwo{{none, p, always(quiet)}, {p, none, always(quiet)}})
		}
	}
}

func TestArithmeticExample(t *testing.T) {
	checkOfTwo(t, "PlusOf", impl.PlusOf, []caseOfTwo{
		{sixteen, one, byMode{sixteen, eighteen, sixteen, eighteen, sixteen, eighteen}},
		{one, sixteen, byMode{sixteen, eighteen, sixteen, eighteen, sixteen, eighteen}},
	})
	checkOfTwo(t, "DivideOf", impl.DivideOf, []caseOfTwo{{one, three, byMode{43, 43, 42, 43, 42, 43}}})
	for i, mode := range modes {
		got, ok := impl.RootOf(example, two, mode)
		wantResult(t, "RootOf", example, mode, got, ok, byMode{59, 59, 59, 60, 59, 59}[i], two)
	}
}

func TestSumsAtEdges(t *testing.T) {
	checkNoNumbers(t, "PlusOf", impl.PlusOf)
	checkOfTwo(t, "PlusOf", impl.PlusOf, []caseOfTwo{
		{plusZero, plusZero, always(plusZero)},
		{minusZero, minusZero, always(minusZero)},
		{plusZero, minusZero, zeroByMode},
		{minusZero, plusZero, zeroByMode},
		{one, minusOne, zeroByMode},
		{minusOne, one, zeroByMode},
		{minusUnit, unit, zeroByMode},
		{minusGreatest, greatest, zeroByMode},
		{minusZero, one, always(one)},
		{minusOne, plusZero, always(minusOne)},
		{unit, unit, always(2)},
		{7, unit, always(8)},
		{8, minusUnit, always(7)},
		{infinite, infinite, always(infinite)},
		{minusInfinite, minusInfinite, always(minusInfinite)},
		{infinite, minusInfinite, always(quiet)},
		{minusInfinite, infinite, always(quiet)},
		{infinite, minusGreatest, always(infinite)},
		{greatest, minusInfinite, always(minusInfinite)},
		{minusZero, infinite, always(infinite)},
		// 240 and 8 together are a tie at the greatest value.
		{greatest, 80, byMode{infinite, infinite, greatest, infinite, greatest, greatest}},
		{minusGreatest, 208, byMode{minusInfinite, minusInfinite, minusGreatest, minusGreatest, minusInfinite, minusGreatest}},
		{greatest, 79, byMode{greatest, greatest, greatest, infinite, greatest, greatest}},
		{greatest, greatest, byMode{infinite, infinite, greatest, infinite, greatest, greatest}},
	})
}

func TestDifferencesAtEdges(t *testing.T) {
	checkNoNumbers(t, "LessOf", impl.LessOf)
	checkOfTwo(t, "LessOf", impl.LessOf, []caseOfTwo{
		{plusZero, plusZero, zeroByMode},
		{minusZero, minusZero, zeroByMode},
		{plusZero, minusZero, always(plusZero)},
		{minusZero, plusZero, always(minusZero)},
		{three, three, zeroByMode},
		{plusZero, one, always(minusOne)},
		{infinite, minusInfinite, always(infinite)},
		{infinite, infinite, always(quiet)},
		{minusInfinite, minusInfinite, always(quiet)},
		{one, infinite, always(minusInfinite)},
		{one, minusInfinite, always(infinite)},
	})
}

func TestProductsAtEdges(t *testing.T) {
	checkNoNumbers(t, "TimesOf", impl.TimesOf)
	checkOfTwo(t, "TimesOf", impl.TimesOf, []caseOfTwo{
		{plusZero, one, always(plusZero)},
		{plusZero, minusOne, always(minusZero)},
		{minusOne, plusZero, always(minusZero)},
		{minusZero, minusOne, always(plusZero)},
		{minusZero, plusZero, always(minusZero)},
		{unit, unit, tinyByMode},
		{minusUnit, minusUnit, tinyByMode},
		{unit, minusUnit, minusTinyByMode},
		{minusUnit, unit, minusTinyByMode},
		// Half of the unit is a tie at zero.
		{unit, 48, byMode{plusZero, unit, plusZero, unit, plusZero, unit}},
		{minusUnit, 48, byMode{minusZero, minusUnit, minusZero, minusZero, minusUnit, minusUnit}},
		{infinite, plusZero, always(quiet)},
		{minusZero, infinite, always(quiet)},
		{minusInfinite, minusZero, always(quiet)},
		{infinite, minusUnit, always(minusInfinite)},
		{minusUnit, minusInfinite, always(infinite)},
		{infinite, infinite, always(infinite)},
		{infinite, minusInfinite, always(minusInfinite)},
		{greatest, two, byMode{infinite, infinite, greatest, infinite, greatest, greatest}},
		{greatest, 192, byMode{minusInfinite, minusInfinite, minusGreatest, minusGreatest, minusInfinite, minusGreatest}},
	})
}

func TestQuotientsAtEdges(t *testing.T) {
	checkNoNumbers(t, "DivideOf", impl.DivideOf)
	checkOfTwo(t, "DivideOf", impl.DivideOf, []caseOfTwo{
		{plusZero, plusZero, always(quiet)},
		{minusZero, plusZero, always(quiet)},
		{infinite, infinite, always(quiet)},
		{infinite, minusInfinite, always(quiet)},
		{infinite, plusZero, always(infinite)},
		{infinite, minusZero, always(minusInfinite)},
		{infinite, minusOne, always(minusInfinite)},
		{minusInfinite, minusUnit, always(infinite)},
		{one, plusZero, always(infinite)},
		{one, minusZero, always(minusInfinite)},
		{minusUnit, minusZero, always(infinite)},
		{plusZero, minusOne, always(minusZero)},
		{minusZero, minusOne, always(plusZero)},
		{plusZero, minusInfinite, always(minusZero)},
		{greatest, infinite, always(plusZero)},
		{greatest, minusInfinite, always(minusZero)},
		{unit, greatest, tinyByMode},
		{unit, minusGreatest, minusTinyByMode},
		{minusUnit, greatest, minusTinyByMode},
		{unit, unit, always(one)},
		{unit, two, byMode{plusZero, unit, plusZero, unit, plusZero, unit}},
		{greatest, unit, byMode{infinite, infinite, greatest, infinite, greatest, greatest}},
	})
}

func TestRootsAtEdges(t *testing.T) {
	for _, c := range []struct{ a, want int }{
		{plusZero, plusZero},
		{minusZero, minusZero},
		{infinite, infinite},
		{minusInfinite, quiet},
		{noNumber, quiet},
		{minusNoNumber, quiet},
		{minusUnit, quiet},
		{minusOne, quiet},
		{minusGreatest, quiet},
		{one, one},
		{72, two},
		{sixteen, 72},
	} {
		for _, mode := range modes {
			got, ok := impl.RootOf(example, c.a, mode)
			wantResult(t, "RootOf", example, mode, got, ok, c.want, c.a)
		}
	}
}

func TestFusedAtEdges(t *testing.T) {
	for _, c := range []struct {
		a, b, c int
		want    byMode
	}{
		{noNumber, one, one, always(quiet)},
		{one, minusNoNumber, one, always(quiet)},
		{one, one, noNumber, always(quiet)},
		{plusZero, infinite, one, always(quiet)},
		{infinite, minusZero, infinite, always(quiet)},
		{plusZero, infinite, noNumber, always(quiet)},
		{infinite, one, minusInfinite, always(quiet)},
		{infinite, minusOne, infinite, always(quiet)},
		{one, minusInfinite, infinite, always(quiet)},
		{minusInfinite, minusInfinite, minusInfinite, always(quiet)},
		{infinite, one, infinite, always(infinite)},
		{infinite, minusUnit, minusInfinite, always(minusInfinite)},
		{infinite, minusUnit, greatest, always(minusInfinite)},
		{greatest, greatest, minusInfinite, always(minusInfinite)},
		{plusZero, one, infinite, always(infinite)},
		{plusZero, one, plusZero, always(plusZero)},
		{plusZero, minusOne, minusZero, always(minusZero)},
		{minusZero, one, minusZero, always(minusZero)},
		{plusZero, one, minusZero, zeroByMode},
		{plusZero, minusOne, plusZero, zeroByMode},
		{one, one, minusOne, zeroByMode},
		{minusOne, one, one, zeroByMode},
		{minusZero, one, one, always(one)},
		{one, unit, plusZero, always(unit)},
		{one, minusUnit, minusZero, always(minusUnit)},
		{unit, unit, plusZero, tinyByMode},
		{unit, unit, minusZero, tinyByMode},
		{unit, minusUnit, plusZero, minusTinyByMode},
		{unit, unit, greatest, byMode{greatest, greatest, greatest, infinite, greatest, greatest}},
		{unit, unit, minusGreatest, byMode{minusGreatest, minusGreatest, 246, 246, minusGreatest, minusGreatest}},
		// 240 times 2 is no finite value, but the sum is one.
		{greatest, two, minusGreatest, always(greatest)},
		// 17, and a little more or less.
		{one, sixteen, one, byMode{sixteen, eighteen, sixteen, eighteen, sixteen, eighteen}},
		{unit, unit, eighteen, byMode{eighteen, eighteen, eighteen, 90, eighteen, eighteen}},
	} {
		for i, mode := range modes {
			got, ok := impl.FusedOf(example, c.a, c.b, c.c, mode)
			wantResult(t, "FusedOf", example, mode, got, ok, c.want[i], c.a, c.b, c.c)
		}
	}
}

func TestRemaindersAtEdges(t *testing.T) {
	call := func(f impl.Format, a int, b int, _ int) (int, bool) { return impl.RemainderOf(f, a, b) }
	checkNoNumbers(t, "RemainderOf", call)
	checkOfTwo(t, "RemainderOf", call, []caseOfTwo{
		{infinite, one, always(quiet)},
		{minusInfinite, infinite, always(quiet)},
		{infinite, plusZero, always(quiet)},
		{one, plusZero, always(quiet)},
		{one, minusZero, always(quiet)},
		{minusZero, plusZero, always(quiet)},
		{one, infinite, always(one)},
		{minusGreatest, minusInfinite, always(minusGreatest)},
		{minusZero, infinite, always(minusZero)},
		{plusZero, minusOne, always(plusZero)},
		{minusZero, one, always(minusZero)},
		{two, one, always(plusZero)},
		{192, one, always(minusZero)},
		{two, minusOne, always(plusZero)},
		// 1 / 2 and 5 / 2 are ties to 0 and 2, 3 / 2 is one to 2.
		{one, two, always(one)},
		{minusOne, two, always(minusOne)},
		{three, two, always(minusOne)},
		{196, two, always(one)},
		{three, 192, always(minusOne)},
		{74, two, always(one)},
		{three, 72, always(minusOne)},
		{greatest, 3, always(plusZero)},
		{greatest, 7, always(2)},
	})
}

func TestWholesAtEdges(t *testing.T) {
	for _, c := range []struct {
		a    int
		want byMode
	}{
		{plusZero, always(plusZero)},
		{minusZero, always(minusZero)},
		{infinite, always(infinite)},
		{minusInfinite, always(minusInfinite)},
		{noNumber, always(quiet)},
		{minusNoNumber, always(quiet)},
		{unit, byMode{plusZero, plusZero, plusZero, one, plusZero, one}},
		{minusUnit, byMode{minusZero, minusZero, minusZero, minusZero, minusOne, minusOne}},
		// 1 / 2, 3 / 2 and 5 / 2.
		{48, byMode{plusZero, one, plusZero, one, plusZero, one}},
		{176, byMode{minusZero, minusOne, minusZero, minusZero, minusOne, minusOne}},
		{60, byMode{two, two, one, two, one, one}},
		{188, byMode{192, 192, minusOne, minusOne, 192, minusOne}},
		{66, byMode{two, three, two, three, two, three}},
		{194, byMode{192, 196, 192, 192, 196, 196}},
		{sixteen, always(sixteen)},
		{greatest, always(greatest)},
	} {
		for i, mode := range modes {
			got, ok := impl.WholeOf(example, c.a, mode)
			wantResult(t, "WholeOf", example, mode, got, ok, c.want[i], c.a)
		}
	}
}

// TestWholesBehindTheGreatest: in the format with 2 and 2 the greatest value is
// 3.5, and 4 counts as the value behind it.
func TestWholesBehindTheGreatest(t *testing.T) {
	f := impl.Format{Exponent: 2, Fraction: 2}
	for _, c := range []struct {
		a    int
		want byMode
	}{
		{11, byMode{12, 12, 10, 12, 10, 10}},
		{27, byMode{28, 28, 26, 26, 28, 26}},
		{9, byMode{8, 10, 8, 10, 8, 10}},
	} {
		for i, mode := range modes {
			got, ok := impl.WholeOf(f, c.a, mode)
			wantResult(t, "WholeOf", f, mode, got, ok, c.want[i], c.a)
		}
	}
}

func TestScalesAtEdges(t *testing.T) {
	for _, c := range []struct {
		a, k int
		want byMode
	}{
		{plusZero, 60, always(plusZero)},
		{minusZero, -60, always(minusZero)},
		{infinite, -60, always(infinite)},
		{minusInfinite, 60, always(minusInfinite)},
		{noNumber, 0, always(quiet)},
		{minusNoNumber, 60, always(quiet)},
		{unit, 0, always(unit)},
		{unit, 9, always(one)},
		{one, -9, always(unit)},
		{minusOne, 1, always(192)},
		{one, -10, byMode{plusZero, unit, plusZero, unit, plusZero, unit}},
		{unit, -60, tinyByMode},
		{greatest, -60, tinyByMode},
		{minusUnit, -60, minusTinyByMode},
		{unit, 60, byMode{infinite, infinite, greatest, infinite, greatest, greatest}},
		{minusUnit, 60, byMode{minusInfinite, minusInfinite, minusGreatest, minusGreatest, minusInfinite, minusGreatest}},
	} {
		for i, mode := range modes {
			got, ok := impl.ScaleOf(example, c.a, c.k, mode)
			wantResult(t, "ScaleOf", example, mode, got, ok, c.want[i], c.a, c.k)
		}
	}
}

func TestLeastAndGreatestAtEdges(t *testing.T) {
	for _, c := range []struct{ a, b, least, greatest int }{
		{plusZero, minusZero, minusZero, plusZero},
		{minusZero, plusZero, minusZero, plusZero},
		{minusZero, minusZero, minusZero, minusZero},
		{one, one, one, one},
		{one, two, one, two},
		{minusOne, minusUnit, minusOne, minusUnit},
		{minusOne, one, minusOne, one},
		{minusInfinite, infinite, minusInfinite, infinite},
		{greatest, infinite, greatest, infinite},
		{noNumber, minusZero, minusZero, minusZero},
		{one, minusNoNumber, one, one},
		{quiet, infinite, infinite, infinite},
		{minusInfinite, noNumber, minusInfinite, minusInfinite},
		{noNumber, minusNoNumber, quiet, quiet},
		{127, 127, quiet, quiet},
	} {
		got, ok := impl.MinOf(example, c.a, c.b)
		wantResult(t, "MinOf", example, 0, got, ok, c.least, c.a, c.b)
		got, ok = impl.MaxOf(example, c.a, c.b)
		wantResult(t, "MaxOf", example, 0, got, ok, c.greatest, c.a, c.b)
	}
}

func TestExactAtEdges(t *testing.T) {
	for _, c := range []struct {
		a, b         int
		sum, product bool
	}{
		{sixteen, one, false, true},
		{sixteen, two, true, true},
		{one, minusOne, true, true},
		{plusZero, minusZero, true, true},
		{unit, unit, true, false},
		{unit, one, false, true},
		{unit, 48, false, false},
		{greatest, greatest, false, false},
		{greatest, minusGreatest, true, false},
		// 240 and 16 are what counts as the value behind the greatest one.
		{greatest, sixteen, false, false},
		{112, two, false, false},
		{104, 80, true, false},
		{72, two, true, true},
	} {
		sum, ok := impl.ExactPlus(example, c.a, c.b)
		product, fine := impl.ExactTimes(example, c.a, c.b)
		if sum != c.sum || !ok || product != c.product || !fine {
			t.Errorf("ExactPlus and ExactTimes of %d and %d: got %v, %v and %v, %v", c.a, c.b, sum, ok, product, fine)
		}
	}
}

// TestOneFractionBit: in the format with 2 and 1 the values are 0, 0.5, 1, 1.5,
// 2 and 3, and the quiet pattern is the only no number with the sign 0.
func TestOneFractionBit(t *testing.T) {
	for _, c := range []struct {
		what string
		call ofTwo
		a, b int
		want byMode
	}{
		{"PlusOf", impl.PlusOf, 4, 1, byMode{4, 5, 4, 5, 4, 5}},
		{"PlusOf", impl.PlusOf, 5, 1, byMode{6, 6, 5, 6, 5, 5}},
		{"PlusOf", impl.PlusOf, 5, 2, byMode{6, 6, 5, 6, 5, 5}},
		{"PlusOf", impl.PlusOf, 6, 14, always(7)},
		{"TimesOf", impl.TimesOf, 1, 1, byMode{0, 1, 0, 1, 0, 1}},
		{"TimesOf", impl.TimesOf, 3, 11, byMode{12, 12, 12, 12, 13, 13}},
		{"DivideOf", impl.DivideOf, 2, 5, byMode{1, 1, 0, 1, 0, 1}},
		{"DivideOf", impl.DivideOf, 0, 0, always(7)},
	} {
		for i, mode := range modes {
			got, ok := c.call(smallest, c.a, c.b, mode)
			wantResult(t, c.what, smallest, mode, got, ok, c.want[i], c.a, c.b)
		}
	}
}
