package tests

import (
	"slices"
	"testing"

	"loop.example/g01178/impl"
)

// randomEdge is a call with its results, nil for a call that fails.
type randomEdge struct {
	x    randomArguments
	want []int
}

func checkRandomEdges(t *testing.T, what string, f impl.Format, edges []randomEdge) {
	t.Helper()
	call := randomCall(t, what)
	for _, c := range edges {
		got, ok := call(f, c.x)
		wantResults(t, what, f, c.x, got, ok, c.want, c.want != nil)
	}
}

// by has a number, bits, and r.
func by(d impl.Dyadic, bits, choice int) randomArguments {
	return randomArguments{d: d, bits: bits, r: choice}
}

func num(n, exp int) impl.Dyadic {
	return impl.Dyadic{Num: n, Exp: exp}
}

// Results of calls that many edges have.
var (
	toZero      = []int{plusZero}
	toMinusZero = []int{minusZero}
	toSixteen   = []int{sixteen}
	toEighteen  = []int{eighteen}
)

func TestRandomExample(t *testing.T) {
	checkRandomEdges(t, "ChanceUp", example, []randomEdge{{by(num(17, 0), 1, 0), []int{1}}})
	checkRandomEdges(t, "RandomRound", example, []randomEdge{{by(num(17, 0), 1, 0), toSixteen}, {by(num(17, 0), 1, 1), toEighteen}})
	checkRandomEdges(t, "MeanOfRound", example, []randomEdge{{by(num(17, 0), 1, 0), []int{17, 0}}})
	start := randomArguments{start: sixteen, add: one, bits: 1, steps: 2}
	checkRandomEdges(t, "EvenSum", example, []randomEdge{{start, toSixteen}})
	checkRandomEdges(t, "StallsAt", example, []randomEdge{{start, []int{sixteen, 0}}})
	checkRandomEdges(t, "OutcomesOf", example, []randomEdge{{start, []int{sixteen, eighteen, 90, 1, 2, 1}}})
	checkRandomEdges(t, "MeanOfSum", example, []randomEdge{{start, []int{9, 1}}})
}

func TestRandomRoundAtEdges(t *testing.T) {
	minusSixteen, minusEighteen := []int{sixteen + minusZero}, []int{eighteen + minusZero}
	checkRandomEdges(t, "RandomRound", example, []randomEdge{
		{by(num(17, 0), 0, 0), toSixteen},
		{by(num(17, 0), 0, 1), nil},
		{by(num(17, 0), 0, -1), nil},
		{by(num(17, 0), 1, 2), nil},
		{by(num(17, 0), 1, -1), nil},
		{by(num(17, 0), 2, 1), toSixteen},
		{by(num(17, 0), 2, 2), toEighteen},
		{by(num(17, 0), 2, 3), toEighteen},
		{by(num(17, 0), 2, 4), nil},
		{by(num(17, 0), 12, 0), toSixteen},
		{by(num(17, 0), 12, 2047), toSixteen},
		{by(num(17, 0), 12, 2048), toEighteen},
		{by(num(17, 0), 12, 4095), toEighteen},
		{by(num(17, 0), 12, 4096), nil},
		{by(num(17, 0), 13, 0), nil},
		{by(num(17, 0), -1, 0), nil},
		{by(num(-17, 0), 0, 0), minusSixteen},
		{by(num(-17, 0), 1, 0), minusSixteen},
		{by(num(-17, 0), 1, 1), minusEighteen},
		// 16.5 is a quarter of the step above 16, and 17.5 three.
		{by(num(33, -1), 1, 1), toSixteen},
		{by(num(33, -1), 2, 2), toSixteen},
		{by(num(33, -1), 2, 3), toEighteen},
		{by(num(35, -1), 1, 0), toSixteen},
		{by(num(35, -1), 1, 1), toEighteen},
		{by(num(35, -1), 2, 0), toSixteen},
		{by(num(35, -1), 2, 1), toEighteen},
		// Just below 18.
		{by(num(18<<44-1, -44), 12, 0), toSixteen},
		{by(num(18<<44-1, -44), 12, 1), toEighteen},
		{by(num(18<<44-1, -44), 0, 0), toSixteen},
		// Just above 16.
		{by(num(16<<44+1, -44), 12, 4095), toSixteen},
	})
}

// TestRandomRoundOfValues: they stay, whatever the bits are.
func TestRandomRoundOfValues(t *testing.T) {
	for bits := range 13 {
		for _, choice := range []int{0, 1<<bits - 1} {
			checkRandomEdges(t, "RandomRound", example, []randomEdge{
				{by(num(0, 0), bits, choice), toZero},
				{by(num(1, 4), bits, choice), toSixteen},
				{by(num(-9, 1), bits, choice), []int{eighteen + minusZero}},
				{by(num(1, -9), bits, choice), []int{unit}},
				{by(num(-1, -9), bits, choice), []int{minusUnit}},
				{by(num(15, 4), bits, choice), []int{greatest}},
				{by(num(-15, 4), bits, choice), []int{minusGreatest}},
			})
		}
		checkRandomEdges(t, "RandomRound", example, []randomEdge{{by(num(1, 4), bits, 1<<bits), nil}, {by(num(0, 0), bits, -1), nil}})
		for _, d := range []impl.Dyadic{num(0, 0), num(1, 4), num(-9, 1), num(1, -9), num(15, 4), num(-15, 4)} {
			checkRandomEdges(t, "ChanceUp", example, []randomEdge{{by(d, bits, 0), []int{0}}})
			checkRandomEdges(t, "MeanOfRound", example, []randomEdge{{by(d, bits, 0), []int{d.Num, d.Exp}}})
			checkRandomEdges(t, "SpreadOfRound", example, []randomEdge{{by(d, bits, 0), []int{0, 0}}})
		}
	}
}

// TestRandomRoundBelowUnit: the unit is 2^-9.
func TestRandomRoundBelowUnit(t *testing.T) {
	checkRandomEdges(t, "RandomRound", example, []randomEdge{
		{by(num(1, -10), 0, 0), toZero},
		{by(num(1, -10), 1, 0), toZero},
		{by(num(1, -10), 1, 1), []int{unit}},
		{by(num(-1, -10), 0, 0), toMinusZero},
		{by(num(-1, -10), 1, 0), toMinusZero},
		{by(num(-1, -10), 1, 1), []int{minusUnit}},
		{by(num(1, -21), 12, 4094), toZero},
		{by(num(1, -21), 12, 4095), []int{unit}},
		{by(num(-1, -21), 12, 4094), toMinusZero},
		{by(num(-1, -21), 12, 4095), []int{minusUnit}},
		{by(num(1, -21), 11, 2047), toZero},
		{by(num(1, -22), 12, 4095), toZero},
		{by(num(-1, -22), 12, 4095), toMinusZero},
		{by(num(1, -100), 12, 4095), toZero},
		{by(num(-1, -100), 12, 4095), toMinusZero},
		{by(num(impl.MaxNum-1, -100), 12, 4095), toZero},
		{by(num(3, -11), 2, 0), toZero},
		{by(num(3, -11), 2, 1), []int{unit}},
		{by(num(impl.MaxNum-1, -59), 12, 0), toZero},
		{by(num(impl.MaxNum-1, -59), 12, 1), []int{unit}},
	})
}

func TestRandomRoundAtGreatest(t *testing.T) {
	minus224 := []int{118 + minusZero}
	checkRandomEdges(t, "RandomRound", example, []randomEdge{
		{by(num(239, 0), 0, 0), []int{118}},
		{by(num(239, 0), 3, 0), []int{118}},
		{by(num(239, 0), 3, 1), []int{greatest}},
		{by(num(239, 0), 4, 0), []int{118}},
		{by(num(239, 0), 4, 1), []int{greatest}},
		{by(num(-239, 0), 4, 0), minus224},
		{by(num(-239, 0), 4, 1), []int{minusGreatest}},
		{by(num(240<<42-1, -42), 12, 0), []int{118}},
		{by(num(240<<42-1, -42), 12, 1), []int{greatest}},
		{by(num(240<<42+1, -42), 12, 0), nil},
		{by(num(240<<42+1, -42), 0, 0), nil},
		{by(num(-240<<42-1, -42), 0, 0), nil},
		{by(num(241, 0), 1, 0), nil},
		{by(num(-241, 0), 1, 1), nil},
		{by(num(31, 3), 1, 0), nil},
		{by(num(1, 8), 1, 0), nil},
		{by(num(1, 100), 0, 0), nil},
	})
}

func TestChanceUpAtEdges(t *testing.T) {
	checkRandomEdges(t, "ChanceUp", example, []randomEdge{
		{by(num(17, 0), 0, 0), []int{0}},
		{by(num(-17, 0), 1, 0), []int{1}},
		{by(num(17, 0), 2, 0), []int{2}},
		{by(num(17, 0), 12, 0), []int{2048}},
		{by(num(17, 0), 13, 0), nil},
		{by(num(17, 0), -1, 0), nil},
		{by(num(33, -1), 1, 0), []int{0}},
		{by(num(33, -1), 2, 0), []int{1}},
		{by(num(35, -1), 1, 0), []int{1}},
		{by(num(35, -1), 2, 0), []int{3}},
		{by(num(18<<44-1, -44), 12, 0), []int{4095}},
		{by(num(16<<44+1, -44), 12, 0), []int{0}},
		{by(num(1, -21), 12, 0), []int{1}},
		{by(num(1, -22), 12, 0), []int{0}},
		{by(num(1, -100), 12, 0), []int{0}},
		{by(num(239, 0), 12, 0), []int{3840}},
		{by(num(241, 0), 12, 0), nil},
	})
}

func TestMeanOfRoundAtEdges(t *testing.T) {
	checkRandomEdges(t, "MeanOfRound", example, []randomEdge{
		{by(num(17, 0), 0, 0), []int{1, 4}},
		{by(num(-17, 0), 0, 0), []int{-1, 4}},
		{by(num(-17, 0), 1, 0), []int{-17, 0}},
		{by(num(33, -1), 1, 0), []int{1, 4}},
		{by(num(33, -1), 2, 0), []int{33, -1}},
		{by(num(35, -1), 1, 0), []int{17, 0}},
		{by(num(16<<44+1, -44), 12, 0), []int{1, 4}},
		// 4095 / 4096 of 18, and the rest of 16.
		{by(num(18<<44-1, -44), 12, 0), []int{18<<11 - 1, -11}},
		{by(num(1, -21), 12, 0), []int{1, -21}},
		{by(num(-3, -22), 12, 0), []int{-1, -21}},
		{by(num(1, -100), 12, 0), []int{0, 0}},
		{by(num(-1, -100), 12, 0), []int{0, 0}},
		{by(num(241, 0), 12, 0), nil},
	})
}

func TestBitsToBeFairAtEdges(t *testing.T) {
	checkRandomEdges(t, "BitsToBeFair", example, []randomEdge{
		{by(num(0, 0), 0, 0), []int{0}},
		{by(num(1, 4), 0, 0), []int{0}},
		{by(num(-15, 4), 0, 0), []int{0}},
		{by(num(17, 0), 0, 0), []int{1}},
		{by(num(-17, 0), 0, 0), []int{1}},
		{by(num(33, -1), 0, 0), []int{2}},
		{by(num(35, -1), 0, 0), []int{2}},
		{by(num(16<<10+1, -10), 0, 0), []int{11}},
		{by(num(16<<11+1, -11), 0, 0), []int{12}},
		{by(num(16<<12+1, -12), 0, 0), nil},
		{by(num(1, -10), 0, 0), []int{1}},
		{by(num(-3, -11), 0, 0), []int{2}},
		{by(num(1, -21), 0, 0), []int{12}},
		{by(num(1, -22), 0, 0), nil},
		{by(num(1, -100), 0, 0), nil},
		{by(num(239, 0), 0, 0), []int{4}},
		{by(num(241, 0), 0, 0), nil},
		{by(num(1, 8), 0, 0), nil},
	})
}

func TestSpreadOfRoundAtEdges(t *testing.T) {
	checkRandomEdges(t, "SpreadOfRound", example, []randomEdge{
		{by(num(17, 0), 0, 0), []int{1, 0}},
		{by(num(17, 0), 1, 0), []int{1, 0}},
		{by(num(-17, 0), 12, 0), []int{1, 0}},
		{by(num(33, -1), 0, 0), []int{1, -2}},
		{by(num(33, -1), 1, 0), []int{1, -2}},
		{by(num(33, -1), 2, 0), []int{3, -2}},
		{by(num(-35, -1), 0, 0), []int{9, -2}},
		{by(num(35, -1), 1, 0), []int{5, -2}},
		{by(num(35, -1), 12, 0), []int{3, -2}},
		// The distance to 2^-9 or its square has too many places, though no r leads there.
		{by(num(1, -60), 0, 0), nil},
		{by(num(1, -59), 12, 0), nil},
		{by(num(1, -50), 0, 0), nil},
		{by(num(1, -35), 0, 0), nil},
		{by(num(1, -34), 0, 0), []int{1, -68}},
		// There is room for the square of the distance to 2^-9, but none for 3 times that.
		{by(num(12729865, -34), 0, 0), []int{12729865 * 12729865, -68}},
		{by(num(12729865, -34), 3, 0), nil},
		{by(num(-10640233, -34), 3, 0), []int{216176047673617, -68}},
		{by(num(241, 0), 1, 0), nil},
		{by(num(17, 0), 13, 0), nil},
		{by(num(17, 0), -1, 0), nil},
	})
	// Of 8 r 7 lead to 2^-24, and 1 to 0. The squares times 7 and 1, and their mean, are
	// whole numbers of 2^-98; the squares times 7 / 8 and 1 / 8 would be no dyadic numbers.
	checkRandomEdges(t, "SpreadOfRound", largest, []randomEdge{
		{by(num(31885951, -49), 3, 0), []int{129525084138241, -98}},
		{by(num(1, -50), 0, 0), nil},
		{by(num(1, -25), 1, 0), []int{1, -50}},
	})
}

// listSum has a start, what is added, bits, and a list of r.
func listSum(start, add, bits int, choices ...int) randomArguments {
	return randomArguments{start: start, add: add, bits: bits, choices: choices}
}

func TestRandomSumAtEdges(t *testing.T) {
	checkRandomEdges(t, "RandomSum", example, []randomEdge{
		{listSum(sixteen, one, 1), toSixteen},
		{listSum(sixteen, one, 1, 0), toSixteen},
		{listSum(sixteen, one, 1, 1), toEighteen},
		{listSum(sixteen, one, 1, 0, 1), toEighteen},
		{listSum(sixteen, one, 1, 1, 0), toEighteen},
		{listSum(sixteen, one, 1, 1, 1), []int{90}},
		{listSum(sixteen, one, 12, 2047, 2048), toEighteen},
		{listSum(sixteen, one, 12, 4095, 4096), nil},
		{listSum(sixteen, one, 1, 2), nil},
		{listSum(sixteen, one, 1, 0, -1), nil},
		{listSum(sixteen, one, 0, 0, 0, 0), toSixteen},
		{listSum(sixteen, one, 0, 0, 1), nil},
		{listSum(sixteen, one, 13), nil},
		{listSum(sixteen, one, -1), nil},
		{listSum(sixteen, one, 1, slices.Repeat([]int{0}, 100)...), toSixteen},
		{listSum(sixteen, one, 1, slices.Repeat([]int{0}, 101)...), nil},
		// The greatest r lead to the next value each time: behind 8 steps to 32, behind
		// 8 more to 64, behind 8 more to 128, and behind 7 more to 240.
		{listSum(sixteen, one, 12, slices.Repeat([]int{4095}, 8)...), []int{96}},
		{listSum(sixteen, one, 12, slices.Repeat([]int{4095}, 16)...), []int{104}},
		{listSum(sixteen, one, 12, slices.Repeat([]int{4095}, 31)...), []int{greatest}},
		{listSum(sixteen, one, 12, slices.Repeat([]int{4095}, 32)...), nil},
		{listSum(plusZero, one, 0, slices.Repeat([]int{0}, 100)...), toSixteen},
	})
}

func TestGreatRandomSums(t *testing.T) {
	const minusSixteen = sixteen + minusZero
	checkRandomEdges(t, "RandomSum", example, []randomEdge{
		{listSum(greatest, one, 1), []int{greatest}},
		{listSum(greatest, one, 1, 0), nil},
		{listSum(greatest, unit, 0, 0), nil},
		{listSum(greatest, plusZero, 0, 0), []int{greatest}},
		{listSum(greatest, greatest, 0, 0), nil},
		{listSum(greatest, minusGreatest, 0, 0), toZero},
		{listSum(minusGreatest, minusOne, 1, 1), nil},
		{listSum(minusGreatest, one, 0, 0), []int{118 + minusZero}},
		{listSum(minusGreatest, minusSixteen, 1), []int{minusGreatest}},
		// 224, 240, 256.
		{listSum(118, sixteen, 1, 0), []int{greatest}},
		{listSum(118, sixteen, 1, 0, 0), nil},
		{listSum(118, sixteen, 1, 0, 0, 0), nil},
		// 225 is rounded to 224 for all r but the last one, so that 241 never comes.
		{listSum(118, one, 4, 14, 14, 14), []int{118}},
		{listSum(118, one, 4, 14, 15), []int{greatest}},
		{listSum(118, one, 4, 15, 0), nil},
	})
}

func TestRandomSumOfZeros(t *testing.T) {
	for _, add := range []int{plusZero, minusZero} {
		checkRandomEdges(t, "RandomSum", example, []randomEdge{
			{listSum(plusZero, add, 0), toZero},
			{listSum(minusZero, add, 0), toMinusZero},
			{listSum(plusZero, add, 0, 0), toZero},
			{listSum(minusZero, add, 0, 0), toZero},
			{listSum(minusZero, add, 1, 1, 1), toZero},
			{listSum(sixteen, add, 1, 1, 0, 1), toSixteen},
			{listSum(minusUnit, add, 12, 4095), []int{minusUnit}},
		})
		for steps, want := range [][]int{toMinusZero, toZero, toZero} {
			x := randomArguments{start: minusZero, add: add, bits: 1, steps: steps}
			checkRandomEdges(t, "EvenSum", example, []randomEdge{{x, want}})
			checkRandomEdges(t, "OutcomesOf", example, []randomEdge{{x, append(want[:1:1], 1<<steps)}})
			checkRandomEdges(t, "MeanOfSum", example, []randomEdge{{x, []int{0, 0}}})
		}
		checkRandomEdges(t, "StallsAt", example, []randomEdge{
			{listSum(plusZero, add, 0), []int{plusZero, 0}},
			{listSum(minusZero, add, 0), []int{plusZero, 1}},
			{listSum(one, add, 0), []int{one, 0}},
			{listSum(minusGreatest, add, 0), []int{minusGreatest, 0}},
		})
	}
	checkRandomEdges(t, "RandomSum", example, []randomEdge{
		{listSum(one, minusOne, 0, 0), toZero},
		{listSum(minusOne, one, 1, 1), toZero},
		{listSum(minusZero, minusUnit, 1, 1), []int{minusUnit}},
		{listSum(minusUnit, unit, 1, 1), toZero},
	})
}

// evenOf has a start, what is added, and steps.
func evenOf(start, add, steps int) randomArguments {
	return randomArguments{start: start, add: add, steps: steps}
}

// TestEvenSumAtEdges: 80 is 8.
func TestEvenSumAtEdges(t *testing.T) {
	checkRandomEdges(t, "EvenSum", example, []randomEdge{
		{evenOf(sixteen, one, 0), toSixteen},
		{evenOf(sixteen, one, 100), toSixteen},
		{evenOf(sixteen, one, 101), nil},
		{evenOf(sixteen, one, -1), nil},
		{evenOf(plusZero, one, 15), []int{87}},
		{evenOf(plusZero, one, 16), toSixteen},
		{evenOf(plusZero, one, 100), toSixteen},
		{evenOf(minusZero, minusOne, 3), []int{three + minusZero}},
		// 19 is as near to 18 as to 20, which is even, and 21 as near to that.
		{evenOf(eighteen, one, 1), []int{90}},
		// 241 is rounded to 240, and 248 to plus infinite.
		{evenOf(greatest, one, 100), []int{greatest}},
		{evenOf(greatest, 79, 1), []int{greatest}},
		{evenOf(greatest, 80, 0), []int{greatest}},
		{evenOf(greatest, 80, 1), nil},
		{evenOf(minusGreatest, 80+minusZero, 0), []int{minusGreatest}},
		{evenOf(minusGreatest, 80+minusZero, 1), nil},
		{evenOf(118, sixteen, 1), []int{greatest}},
		{evenOf(118, sixteen, 2), nil},
		{evenOf(118, sixteen, 100), nil},
	})
}

// TestStallsAtEdges: in the format with 5 and 10 the units come one by one up to 2048,
// where one more is as near to that.
func TestStallsAtEdges(t *testing.T) {
	checkRandomEdges(t, "StallsAt", example, []randomEdge{
		{evenOf(sixteen, one, 0), []int{sixteen, 0}},
		{evenOf(one, one, 0), []int{sixteen, 15}},
		{evenOf(plusZero, one, 0), []int{sixteen, 16}},
		{evenOf(minusZero, minusOne, 0), []int{sixteen + minusZero, 16}},
		{evenOf(eighteen, one, 0), []int{90, 1}},
		{evenOf(sixteen, two, 0), []int{96, 8}},
		{evenOf(greatest, one, 0), []int{greatest, 0}},
		{evenOf(greatest, 79, 0), []int{greatest, 0}},
		{evenOf(greatest, 80, 0), nil},
		{evenOf(sixteen, sixteen, 0), nil},
		{evenOf(sixteen, greatest, 0), nil},
		{evenOf(minusGreatest, minusGreatest, 0), nil},
		// It goes on from there on the other side of 0.
		{evenOf(minusGreatest, sixteen, 0), nil},
		{evenOf(unit, minusUnit, 0), []int{16 + minusZero, 17}},
	})
	const twoThousand = 2 << 10
	checkRandomEdges(t, "StallsAt", largest, []randomEdge{
		{evenOf(twoThousand, 1, 0), []int{twoThousand, 0}},
		{evenOf(twoThousand-1, 1, 0), []int{twoThousand, 1}},
		{evenOf(twoThousand-999, 1, 0), []int{twoThousand, 999}},
		{evenOf(twoThousand-1000, 1, 0), []int{twoThousand, 1000}},
		{evenOf(twoThousand-1001, 1, 0), nil},
		{evenOf(0, 1, 0), nil},
		{evenOf(minusInLargest+twoThousand-1000, minusInLargest+1, 0), []int{minusInLargest + twoThousand, 1000}},
		{evenOf(minusInLargest+twoThousand-1001, minusInLargest+1, 0), nil},
	})
}

// outcomesFor has a start, what is added, bits, and steps.
func outcomesFor(start, add, bits, steps int) randomArguments {
	return randomArguments{start: start, add: add, bits: bits, steps: steps}
}

func TestOutcomesAtEdges(t *testing.T) {
	const minusSixteen, minusEighteen = sixteen + minusZero, eighteen + minusZero
	checkRandomEdges(t, "OutcomesOf", example, []randomEdge{
		{outcomesFor(sixteen, one, 1, 0), []int{sixteen, 1}},
		{outcomesFor(sixteen, one, 12, 0), []int{sixteen, 1}},
		{outcomesFor(minusZero, one, 12, 0), []int{minusZero, 1}},
		{outcomesFor(sixteen, one, 0, 100), []int{sixteen, 1}},
		{outcomesFor(sixteen, one, 0, 101), nil},
		{outcomesFor(sixteen, one, 0, -1), nil},
		{outcomesFor(sixteen, one, 12, 1), []int{sixteen, eighteen, 2048, 2048}},
		{outcomesFor(sixteen, one, 12, 2), nil},
		{outcomesFor(sixteen, one, 6, 2), []int{sixteen, eighteen, 90, 1024, 2048, 1024}},
		{outcomesFor(sixteen, one, 6, 3), nil},
		// From 32 no r leads on: 33 is a quarter of the step above it.
		{outcomesFor(sixteen, one, 1, 12), []int{
			sixteen, 89, 90, 91, 92, 93, 94, 95, 96,
			1, 12, 66, 220, 495, 792, 924, 792, 495 + 220 + 66 + 12 + 1,
		}},
		{outcomesFor(sixteen, one, 1, 13), nil},
		{outcomesFor(sixteen, one, 13, 0), nil},
		{outcomesFor(sixteen, one, -1, 0), nil},
		// The lesser value comes first.
		{outcomesFor(minusSixteen, minusOne, 1, 1), []int{minusEighteen, minusSixteen, 1, 1}},
		{outcomesFor(minusSixteen, minusOne, 1, 2), []int{90 + minusZero, minusEighteen, minusSixteen, 1, 2, 1}},
		// With 0 and 1 bits no r leads up from 16.5.
		{outcomesFor(sixteen, 48, 0, 3), []int{sixteen, 1}},
		{outcomesFor(sixteen, 48, 1, 3), []int{sixteen, 8}},
		{outcomesFor(sixteen, 48, 2, 1), []int{sixteen, eighteen, 3, 1}},
		{outcomesFor(plusZero, one, 3, 3), []int{three, 512}},
		{outcomesFor(one, minusOne, 2, 1), []int{plusZero, 4}},
	})
}

// TestRefusedOutcomes: one list of r that leads to a sum greater than 240 is enough.
func TestRefusedOutcomes(t *testing.T) {
	for _, what := range []string{"OutcomesOf", "MeanOfSum"} {
		checkRandomEdges(t, what, example, []randomEdge{
			{outcomesFor(greatest, one, 1, 1), nil},
			{outcomesFor(greatest, unit, 0, 1), nil},
			{outcomesFor(minusGreatest, minusOne, 2, 6), nil},
			{outcomesFor(118, one, 4, 2), nil},
			{outcomesFor(118, one, 4, 3), nil},
			{outcomesFor(118, sixteen, 1, 2), nil},
			{outcomesFor(greatest, greatest, 0, 100), nil},
		})
	}
	checkRandomEdges(t, "OutcomesOf", example, []randomEdge{
		{outcomesFor(greatest, one, 1, 0), []int{greatest, 1}},
		{outcomesFor(118, sixteen, 1, 1), []int{greatest, 2}},
		{outcomesFor(118, one, 4, 1), []int{118, greatest, 15, 1}},
		// With 3 bits no r leads from 225 to 240.
		{outcomesFor(118, one, 3, 4), []int{118, 4096}},
	})
}

func TestMeanOfSumAtEdges(t *testing.T) {
	checkRandomEdges(t, "MeanOfSum", example, []randomEdge{
		{outcomesFor(sixteen, one, 1, 0), []int{1, 4}},
		{outcomesFor(minusZero, one, 12, 0), []int{0, 0}},
		{outcomesFor(sixteen, one, 1, 1), []int{17, 0}},
		{outcomesFor(sixteen, one, 12, 1), []int{17, 0}},
		// Behind 8 steps 32 may come, from where one bit is not enough for 33.
		{outcomesFor(sixteen, one, 1, 8), []int{3, 3}},
		{outcomesFor(sixteen, one, 1, 9), []int{6399, -8}},
		{outcomesFor(sixteen, one, 0, 100), []int{1, 4}},
		{outcomesFor(sixteen, 48, 1, 12), []int{1, 4}},
		{outcomesFor(sixteen, 48, 2, 6), []int{19, 0}},
		{outcomesFor(sixteen+minusZero, 48+minusZero, 2, 6), []int{-19, 0}},
		{outcomesFor(sixteen, one, 1, 13), nil},
		{outcomesFor(sixteen, one, 0, 101), nil},
		{outcomesFor(sixteen, one, 13, 0), nil},
	})
}
