package tests

import (
	"slices"
	"testing"

	"loop.example/g01178/impl"
)

// More patterns of the format with 4 and 3.
const (
	four            = 72
	eight           = 80
	fifteen         = 87
	twenty          = 90
	twentyFour      = 92
	minusEight      = eight + 128
	minusSixteen    = sixteen + 128
	minusTwentyFour = twentyFour + 128
)

var oneBit = impl.Format{Exponent: 4, Fraction: 1}

// edge is a call with its results, nil for a call that fails.
type edge struct {
	arguments []int
	want      []int
}

func checkEdges(t *testing.T, what string, f impl.Format, call func(impl.Format, []int) ([]int, bool), edges []edge) {
	t.Helper()
	for _, c := range edges {
		got, ok := call(f, c.arguments)
		wantResults(t, what, f, c.arguments, got, ok, c.want, c.want != nil)
	}
}

// stepNamed returns a function of stepsOfTwo, which takes both patterns in a list.
func stepNamed(t *testing.T, name string) func(impl.Format, []int) ([]int, bool) {
	t.Helper()
	for _, c := range stepsOfTwo {
		if c.what == name {
			return func(f impl.Format, list []int) ([]int, bool) { return c.call(f, list[0], list[1]) }
		}
	}
	t.Fatal("there is no", name)
	return nil
}

// sumNamed returns a function of sumsOfLists.
func sumNamed(t *testing.T, name string) func(impl.Format, []int) ([]int, bool) {
	t.Helper()
	for _, c := range sumsOfLists {
		if c.what == name {
			return c.call
		}
	}
	t.Fatal("there is no", name)
	return nil
}

func TestExactExample(t *testing.T) {
	checkEdges(t, "TwoSum", example, stepNamed(t, "TwoSum"), []edge{{[]int{sixteen, one}, []int{sixteen, one}}})
	for _, list := range [][]int{{sixteen, one, one}, {one, one, sixteen}} {
		inOrder := sixteen
		if list[0] == one {
			inOrder = eighteen
		}
		checkEdges(t, "SumInOrder", example, sumNamed(t, "SumInOrder"), []edge{{list, []int{inOrder}}})
		checkEdges(t, "CompensatedSum", example, sumNamed(t, "CompensatedSum"), []edge{{list, []int{eighteen}}})
	}
	// 1.125 and 0.875.
	checkEdges(t, "IsNear", example, stepNamed(t, "IsNear"), []edge{{[]int{57, 54}, []int{1}}})
	checkEdges(t, "IsExactDifference", example, stepNamed(t, "IsExactDifference"), []edge{{[]int{57, 54}, []int{1}}})
}

func TestTwoSumAtEdges(t *testing.T) {
	sums := []edge{
		{[]int{sixteen, one}, []int{sixteen, one}},
		{[]int{one, sixteen}, []int{sixteen, one}},
		// 19 is a tie between 18 and 20, and 20 has the even pattern.
		{[]int{eighteen, one}, []int{twenty, minusOne}},
		{[]int{one, eighteen}, []int{twenty, minusOne}},
		{[]int{minusSixteen, minusOne}, []int{minusSixteen, minusOne}},
		{[]int{minusZero, minusZero}, []int{plusZero, plusZero}},
		{[]int{plusZero, minusZero}, []int{plusZero, plusZero}},
		{[]int{minusZero, one}, []int{one, plusZero}},
		{[]int{one, minusOne}, []int{plusZero, plusZero}},
		{[]int{minusOne, one}, []int{plusZero, plusZero}},
		{[]int{minusGreatest, greatest}, []int{plusZero, plusZero}},
		// Subnormal ones, and what they make with others.
		{[]int{unit, unit}, []int{2, plusZero}},
		{[]int{7, unit}, []int{8, plusZero}},
		{[]int{8, minusUnit}, []int{7, plusZero}},
		{[]int{unit, minusUnit}, []int{plusZero, plusZero}},
		{[]int{minusUnit, minusUnit}, []int{minusUnit + 1, plusZero}},
		{[]int{one, unit}, []int{one, unit}},
		{[]int{minusUnit, greatest}, []int{greatest, minusUnit}},
		// 240 and 7.5, or 8, which is a tie that becomes infinite.
		{[]int{greatest, 79}, []int{greatest, 79}},
		{[]int{minusGreatest, 79 + 128}, []int{minusGreatest, 79 + 128}},
		{[]int{greatest, eight}, nil},
		{[]int{minusEight, minusGreatest}, nil},
		{[]int{greatest, greatest}, nil},
		{[]int{minusGreatest, minusGreatest}, nil},
		// 216 is a tie between 208 and 224. The second one of the six steps, of
		// 224 and 24, does not fit, but TwoSum is the near sum and its error.
		{[]int{minusTwentyFour, greatest}, []int{greatest - 1, minusEight}},
	}
	checkEdges(t, "TwoSum", example, stepNamed(t, "TwoSum"), sums)
	for _, c := range sums {
		want := c.want
		if want != nil {
			want = want[:1]
		}
		checkEdges(t, "NearSum", example, stepNamed(t, "NearSum"), []edge{{c.arguments, want}})
	}
}

func TestSixStepsAtEdges(t *testing.T) {
	checkEdges(t, "SixSteps", example, stepNamed(t, "SixSteps"), []edge{
		{[]int{sixteen, one}, []int{sixteen, plusZero, sixteen, plusZero, one, one}},
		{[]int{one, sixteen}, []int{sixteen, fifteen, one, plusZero, one, one}},
		{[]int{plusZero, plusZero}, make([]int, 6)},
		{[]int{minusZero, minusZero}, make([]int, 6)},
		{[]int{minusZero, unit}, []int{unit, unit, plusZero, plusZero, plusZero, plusZero}},
		{[]int{one, minusOne}, []int{plusZero, minusOne, one, plusZero, plusZero, plusZero}},
		{[]int{greatest, minusGreatest}, []int{plusZero, minusGreatest, greatest, plusZero, plusZero, plusZero}},
		{[]int{greatest, eight}, nil},
		{[]int{minusEight, minusGreatest}, nil},
		// The first step fits, but the second one, of 224 and 24, does not.
		{[]int{minusTwentyFour, greatest}, nil},
		{[]int{twentyFour, minusGreatest}, nil},
		{[]int{greatest, minusTwentyFour}, []int{greatest - 1, minusSixteen, greatest, plusZero, minusEight, minusEight}},
	})
}

func TestQuickTwoSumAtEdges(t *testing.T) {
	checkEdges(t, "QuickTwoSum", example, stepNamed(t, "QuickTwoSum"), []edge{
		{[]int{sixteen, one}, []int{sixteen, one}},
		{[]int{minusSixteen, one}, []int{fifteen + 128, plusZero}},
		{[]int{eighteen, one}, []int{twenty, minusOne}},
		{[]int{greatest, minusTwentyFour}, []int{greatest - 1, minusEight}},
		// The first one is less in size.
		{[]int{one, sixteen}, nil},
		{[]int{one, minusSixteen}, nil},
		{[]int{one, one + 1}, nil},
		{[]int{minusZero, unit}, nil},
		{[]int{minusTwentyFour, greatest}, nil},
		// Both have the same size.
		{[]int{one, one}, []int{two, plusZero}},
		{[]int{one, minusOne}, []int{plusZero, plusZero}},
		{[]int{minusOne, one}, []int{plusZero, plusZero}},
		{[]int{plusZero, minusZero}, []int{plusZero, plusZero}},
		{[]int{minusZero, minusZero}, []int{plusZero, plusZero}},
		// Subnormal ones.
		{[]int{7, minusUnit}, []int{6, plusZero}},
		{[]int{one, unit}, []int{one, unit}},
		{[]int{minusUnit, minusZero}, []int{minusUnit, plusZero}},
		{[]int{greatest, eight}, nil},
		{[]int{minusGreatest, minusGreatest}, nil},
	})
}

func TestTwoProductAtEdges(t *testing.T) {
	const half, quarter, fortyEight = 48, 40, 100
	checkEdges(t, "TwoProduct", example, stepNamed(t, "TwoProduct"), []edge{
		// 1.125 * 1.125 is 1.25 and 8 units.
		{[]int{57, 57}, []int{58, 8}},
		{[]int{57, 57 + 128}, []int{58 + 128, 8 + 128}},
		// 22 * 11 is 240 and 2, 13 * 18 is 240 less 6.
		{[]int{91, 83}, []int{greatest, two}},
		{[]int{85, eighteen}, []int{greatest, 76 + 128}},
		// 14 * 18 is 252, 16 * 16 is 256.
		{[]int{86, eighteen}, nil},
		{[]int{86 + 128, eighteen}, nil},
		{[]int{sixteen, sixteen}, nil},
		{[]int{greatest, minusGreatest}, nil},
		{[]int{greatest, one}, []int{greatest, plusZero}},
		// Zeros are told with the sign 0.
		{[]int{plusZero, plusZero}, []int{plusZero, plusZero}},
		{[]int{minusZero, one}, []int{plusZero, plusZero}},
		{[]int{minusUnit, plusZero}, []int{plusZero, plusZero}},
		{[]int{minusGreatest, minusZero}, []int{plusZero, plusZero}},
		// Subnormal products, exact ones and such with parts of a unit.
		{[]int{unit, one}, []int{unit, plusZero}},
		{[]int{half, 2}, []int{unit, plusZero}},
		{[]int{minusUnit, fortyEight}, []int{28 + 128, plusZero}},
		{[]int{half, unit}, nil},
		{[]int{half, 3}, nil},
		{[]int{unit, unit}, nil},
		{[]int{minusUnit, unit}, nil},
		// 9 units by 1 / 4, 9 units by 9 / 4, 11 units by 3 / 2.
		{[]int{9, quarter}, nil},
		{[]int{9, 65}, nil},
		{[]int{11, 60}, nil},
	})
}

func TestNearAtEdges(t *testing.T) {
	for _, c := range []struct {
		a, b        int
		near, exact int
	}{
		{57, 54, 1, 1},
		{one, one, 1, 1},
		// 2, 2.25 and 1.875 beside 1.
		{two, one, 1, 1},
		{two + 1, one, 0, 1},
		{two - 1, one, 1, 1},
		{greatest, 111, 1, 1},
		{greatest, 110, 0, 1},
		{greatest, 57, 0, 0},
		{sixteen, one, 0, 1},
		{eighteen, one, 0, 0},
		{twenty, one, 0, 0},
		// Subnormal ones.
		{unit, unit, 1, 1},
		{unit, 2, 1, 1},
		{unit, 3, 0, 1},
		{7, 14, 1, 1},
		{7, 15, 0, 1},
		// At 0 or below none is near.
		{plusZero, plusZero, 0, 1},
		{minusZero, plusZero, 0, 1},
		{plusZero, unit, 0, 1},
		{minusZero, unit, 0, 1},
		{minusUnit, minusUnit, 0, 1},
		{minusOne, minusOne, 0, 1},
		{minusOne, one, 0, 1},
		{minusSixteen, one, 0, 0},
		{greatest, minusGreatest, 0, 0},
		{greatest, minusEight, 0, 0},
	} {
		for _, list := range [][]int{{c.a, c.b}, {c.b, c.a}} {
			checkEdges(t, "IsNear", example, stepNamed(t, "IsNear"), []edge{{list, []int{c.near}}})
			checkEdges(t, "IsExactDifference", example, stepNamed(t, "IsExactDifference"), []edge{{list, []int{c.exact}}})
		}
	}
}

// twelve returns a list of MaxList patterns.
func twelve(p int) []int {
	return slices.Repeat([]int{p}, impl.MaxList)
}

// alternating returns a list of MaxList patterns, two in turn.
func alternating(a, b int) []int {
	return slices.Repeat([]int{a, b}, impl.MaxList/2)
}

func TestSumsInOrderAtEdges(t *testing.T) {
	const twelveOnes = 84
	checkEdges(t, "SumInOrder", example, sumNamed(t, "SumInOrder"), []edge{
		{nil, []int{plusZero}},
		{[]int{}, []int{plusZero}},
		{[]int{minusZero}, []int{plusZero}},
		{[]int{minusZero, minusZero}, []int{plusZero}},
		{[]int{minusGreatest}, []int{minusGreatest}},
		{[]int{one, minusOne}, []int{plusZero}},
		{[]int{unit, unit, minusUnit}, []int{unit}},
		{twelve(one), []int{twelveOnes}},
		{twelve(minusZero), []int{plusZero}},
		{alternating(greatest, minusGreatest), []int{plusZero}},
		// 16 and 1 is 16 again and again, the other way round they are 26.
		{append([]int{sixteen}, twelve(one)[:10]...), []int{sixteen}},
		{append(twelve(one)[:10], sixteen), []int{93}},
		// What does not fit on the way.
		{[]int{greatest, minusSixteen, sixteen}, []int{greatest}},
		{[]int{greatest, sixteen, minusSixteen}, nil},
		{[]int{minusGreatest, minusEight, greatest}, nil},
		{[]int{greatest, greatest, minusGreatest, minusGreatest}, nil},
		{[]int{one, greatest, eight}, nil},
	})
}

func TestCompensatedSumsAtEdges(t *testing.T) {
	const six = 76
	checkEdges(t, "CompensatedSum", example, sumNamed(t, "CompensatedSum"), []edge{
		{nil, []int{plusZero}},
		{[]int{minusZero}, []int{plusZero}},
		{[]int{one, minusOne}, []int{plusZero}},
		{[]int{minusUnit, minusZero}, []int{minusUnit}},
		{append([]int{sixteen}, twelve(one)[:10]...), []int{93}},
		{append(twelve(one)[:10], sixteen), []int{93}},
		{twelve(minusOne), []int{84 + 128}},
		{alternating(greatest, minusGreatest), []int{plusZero}},
		{[]int{greatest, eight, minusEight}, nil},
		{[]int{greatest, greatest, minusGreatest}, nil},
		// 240 and the errors 6 and 1 are 247, which still fits.
		{[]int{greatest, six, one}, []int{greatest}},
		// All sums fit, but for that of 240 and the errors 6 and 2.
		{[]int{greatest, six, two}, nil},
		{[]int{minusGreatest, six + 128, two + 128}, nil},
	})
}

func TestExactSumsAtEdges(t *testing.T) {
	for _, c := range []struct {
		list    []int
		num     int
		exp     int
		sign    int
		rounded int
	}{
		{nil, 0, 0, 0, plusZero},
		{[]int{minusZero}, 0, 0, 0, plusZero},
		{[]int{minusZero, plusZero, minusZero}, 0, 0, 0, plusZero},
		{[]int{minusOne, one}, 0, 0, 0, plusZero},
		{[]int{minusUnit}, -1, -9, -1, minusUnit},
		{[]int{unit, unit, unit}, 3, -9, 1, 3},
		{[]int{sixteen, one}, 17, 0, 1, sixteen},
		{[]int{sixteen, one, unit}, 17*512 + 1, -9, 1, eighteen},
		{[]int{minusSixteen, minusOne, minusUnit}, -17*512 - 1, -9, -1, eighteen + 128},
		{[]int{greatest, minusGreatest, minusUnit}, -1, -9, -1, minusUnit},
		// Near sums on the way do not matter.
		{[]int{greatest, greatest, minusGreatest}, 15, 4, 1, greatest},
		{alternating(greatest, minusGreatest), 0, 0, 0, plusZero},
		{[]int{greatest, 79}, 495, -1, 1, greatest},
	} {
		checkEdges(t, "ExactSum", example, sumNamed(t, "ExactSum"), []edge{{c.list, []int{c.num, c.exp}}})
		checkEdges(t, "SignOfSum", example, sumNamed(t, "SignOfSum"), []edge{{c.list, []int{c.sign}}})
		checkEdges(t, "RoundedSum", example, sumNamed(t, "RoundedSum"), []edge{{c.list, []int{c.rounded}}})
	}
	checkEdges(t, "ExactSum", example, sumNamed(t, "ExactSum"), []edge{
		{twelve(greatest), []int{45, 6}},
		{[]int{minusGreatest, minusEight}, []int{-31, 3}},
	})
	checkEdges(t, "SignOfSum", example, sumNamed(t, "SignOfSum"), []edge{{twelve(greatest), []int{1}}, {twelve(minusGreatest), []int{-1}}})
	checkEdges(t, "RoundedSum", example, sumNamed(t, "RoundedSum"), []edge{
		{twelve(greatest), nil},
		{twelve(minusGreatest), nil},
		{[]int{greatest, eight}, nil},
		{[]int{minusGreatest, minusEight}, nil},
	})
}

// TestExactSumsOfTheLargest has the greatest and the least number of units that
// are summed up in a list.
func TestExactSumsOfTheLargest(t *testing.T) {
	const most = 31<<10 - 1
	checkEdges(t, "ExactSum", largest, sumNamed(t, "ExactSum"), []edge{
		{twelve(most), []int{2047 * 3, 7}},
		{append(twelve(most)[1:], 1), []int{2047*11<<29 + 1, -24}},
		{append(twelve(most | 1<<15)[1:], 1<<15|1), []int{-2047*11<<29 - 1, -24}},
		{twelve(1), []int{3, -22}},
	})
}

func TestGrowExpansionAtEdges(t *testing.T) {
	for _, c := range []struct {
		parts []int
		b     int
		want  []int
	}{
		{nil, one, []int{one}},
		{nil, minusZero, []int{}},
		{[]int{sixteen}, one, []int{one, sixteen}},
		{[]int{one}, sixteen, []int{one, sixteen}},
		{[]int{one, sixteen}, one, []int{eighteen}},
		{[]int{minusOne}, eighteen, []int{one, sixteen}},
		// Errors that are 0 are left out, and so is the last sum.
		{[]int{one}, one, []int{two}},
		{[]int{one}, minusOne, []int{}},
		{[]int{minusZero}, minusZero, []int{}},
		{[]int{minusZero, plusZero}, one, []int{one}},
		{[]int{one, minusSixteen}, sixteen, []int{one}},
		{[]int{minusSixteen, one}, sixteen, []int{one}},
		{[]int{unit, minusUnit}, minusUnit, []int{minusUnit}},
		{[]int{unit, one}, sixteen, []int{unit, one, sixteen}},
		{twelve(one), one, []int{85}},
		// As many errors as parts, and the last sum.
		{twelve(one), sixteen, append(twelve(one), sixteen)},
		{[]int{greatest}, eight, nil},
		{[]int{greatest, minusGreatest}, greatest, nil},
		{[]int{one, minusEight}, minusGreatest, nil},
	} {
		got, ok := impl.GrowExpansion(example, c.parts, c.b)
		wantResults(t, "GrowExpansion", example, append([]int{c.b}, c.parts...), got, ok, c.want, c.want != nil)
	}
}

func TestExpansionsAtEdges(t *testing.T) {
	checkEdges(t, "ExpansionOf", example, impl.ExpansionOf, []edge{
		{nil, []int{}},
		{[]int{minusZero}, []int{}},
		{twelve(minusZero), []int{}},
		{[]int{one, minusOne}, []int{}},
		{alternating(greatest, minusGreatest), []int{}},
		{[]int{sixteen}, []int{sixteen}},
		{[]int{sixteen, one}, []int{one, sixteen}},
		{[]int{sixteen, one, one}, []int{eighteen}},
		{[]int{sixteen, one, minusSixteen}, []int{one}},
		{[]int{unit, one, sixteen}, []int{unit, one, sixteen}},
		{twelve(one), []int{84}},
		{[]int{greatest, eight}, nil},
		{[]int{greatest, eight, minusEight}, nil},
		{[]int{minusGreatest, minusGreatest, greatest}, nil},
	})
}

func TestSpreadOfOrdersAtEdges(t *testing.T) {
	checkEdges(t, "SpreadOfOrders", example, sumNamed(t, "SpreadOfOrders"), []edge{
		{nil, []int{plusZero, plusZero}},
		{[]int{minusZero}, []int{plusZero, plusZero}},
		{[]int{minusGreatest}, []int{minusGreatest, minusGreatest}},
		{[]int{one, minusOne}, []int{plusZero, plusZero}},
		{[]int{sixteen, one, one}, []int{sixteen, eighteen}},
		// All sums on the way are exact.
		{[]int{one, minusSixteen, one, one, one}, []int{84 + 128, 84 + 128}},
		{[]int{one, one, one, one, sixteen}, []int{sixteen, twenty}},
		{[]int{minusOne, minusOne, minusOne, minusOne, minusSixteen}, []int{twenty + 128, minusSixteen}},
		// 3 and 16 are 19, a tie that becomes 20.
		{[]int{sixteen, minusSixteen, one, one, one}, []int{plusZero, four}},
		{[]int{unit, unit, unit, unit, unit}, []int{5, 5}},
		// One of the orders has a sum that does not fit.
		{[]int{greatest, minusEight, eight}, nil},
		{[]int{minusGreatest, greatest, minusEight}, nil},
		{[]int{greatest, minusGreatest, greatest}, nil},
		{[]int{one, one, greatest, greatest, minusGreatest}, nil},
		// More than five, which would have a sum.
		{[]int{one, one, one, one, one, one}, nil},
		{twelve(plusZero), nil},
	})
}

// TestOneFractionBitHasErrors: the format with 4 and 1 has 1, 1.5, 2, 3, 4, 6.
func TestOneFractionBitHasErrors(t *testing.T) {
	const (
		unit, one, onePointFive, two, three, four, six = 1, 14, 15, 16, 17, 18, 19
		quarter, half, greatest, minus                 = 10, 12, 29, 32
	)
	checkEdges(t, "TwoSum", oneBit, stepNamed(t, "TwoSum"), []edge{
		// 2.5 is a tie between 2 and 3, 3.5 between 3 and 4.
		{[]int{one, onePointFive}, []int{two, half}},
		{[]int{onePointFive, two}, []int{four, half + minus}},
		{[]int{two, onePointFive}, []int{four, half + minus}},
		{[]int{unit, unit}, []int{2, 0}},
		{[]int{2, unit + minus}, []int{unit, 0}},
		{[]int{minus, minus}, []int{0, 0}},
		{[]int{greatest, greatest}, nil},
	})
	checkEdges(t, "SixSteps", oneBit, stepNamed(t, "SixSteps"), []edge{
		{[]int{one, onePointFive}, []int{two, one, one, 0, half, half}},
		{[]int{onePointFive, two}, []int{four, two, two, half + minus, 0, half + minus}},
	})
	checkEdges(t, "QuickTwoSum", oneBit, stepNamed(t, "QuickTwoSum"), []edge{
		{[]int{one, onePointFive}, nil},
		{[]int{onePointFive, one}, []int{two, half}},
	})
	checkEdges(t, "TwoProduct", oneBit, stepNamed(t, "TwoProduct"), []edge{
		// 2.25 and 4.5.
		{[]int{onePointFive, onePointFive}, []int{two, quarter}},
		{[]int{onePointFive, three}, []int{four, half}},
	})
	checkEdges(t, "SumInOrder", oneBit, sumNamed(t, "SumInOrder"), []edge{
		{[]int{one, onePointFive, half}, []int{two}},
		{[]int{half, one, onePointFive}, []int{three}},
	})
	checkEdges(t, "ExpansionOf", oneBit, impl.ExpansionOf, []edge{
		{[]int{one, onePointFive}, []int{half, two}},
		{[]int{one, onePointFive, half}, []int{three}},
		{[]int{six, onePointFive}, []int{half + minus, four + 2}},
	})
}
