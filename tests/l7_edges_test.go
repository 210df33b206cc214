package tests

import (
	"slices"
	"testing"

	"loop.example/g01178/impl"
)

// blockEdge is a call with its results, nil for a call that fails.
type blockEdge struct {
	x    blockArguments
	want []int
}

func checkBlockEdges(t *testing.T, what string, f impl.Format, edges []blockEdge) {
	t.Helper()
	call := blockCall(t, what)
	for _, c := range edges {
		got, ok := call(f, c.x)
		wantResults(t, what, f, c.x, got, ok, c.want, c.want != nil)
	}
}

func rawList(numbers ...int) blockArguments {
	return blockArguments{list: numbers}
}

func blockAt(power int, patterns ...int) impl.Block {
	return impl.Block{Power: power, Patterns: patterns}
}

func TestBlockExample(t *testing.T) {
	list := rawList(1000, 3)
	checkBlockEdges(t, "SharedPower", example, []blockEdge{{list, []int{2}}})
	// 3 / 4 is the pattern 52.
	checkBlockEdges(t, "BlockOf", example, []blockEdge{{list, []int{2, 2, greatest, 52}}})
	checkBlockEdges(t, "ErrorOfBlock", example, []blockEdge{{list, []int{5, 3}}})
	checkBlockEdges(t, "BestPower", example, []blockEdge{{list, []int{3}}})
	checkBlockEdges(t, "ValuesOfBlock", example, []blockEdge{{blockArguments{a: blockAt(2, greatest, 52)}, []int{2, 15, 6, 3, 0}}})
	checkBlockEdges(t, "DotBlocks", example, []blockEdge{{blockArguments{a: blockAt(2, greatest, 52), b: blockAt(2, greatest, 52)}, []int{960*960 + 9, 0}}})
	checkBlockEdges(t, "BitsOfBlock", example, []blockEdge{{blockArguments{n: 16}, []int{136}}})
}

func TestIsBlockAtEdges(t *testing.T) {
	yes, no := []int{1}, []int{0}
	checkBlockEdges(t, "IsBlock", example, []blockEdge{
		{blockArguments{a: impl.Block{}}, yes},
		{blockArguments{a: impl.Block{Patterns: []int{}}}, yes},
		{blockArguments{a: blockAt(0, plusZero)}, yes},
		{blockArguments{a: blockAt(0, minusZero, plusZero)}, yes},
		{blockArguments{a: blockAt(-40, greatest, minusGreatest)}, yes},
		{blockArguments{a: blockAt(40, unit, minusUnit)}, yes},
		{blockArguments{a: impl.Block{Power: 40}}, yes},
		{blockArguments{a: impl.Block{Power: -41}}, no},
		{blockArguments{a: impl.Block{Power: 41}}, no},
		{blockArguments{a: blockAt(-41, one)}, no},
		{blockArguments{a: blockAt(41, one)}, no},
		{blockArguments{a: blockAt(0, slices.Repeat([]int{one}, 16)...)}, yes},
		{blockArguments{a: blockAt(0, slices.Repeat([]int{one}, 17)...)}, no},
		{blockArguments{a: blockAt(0, infinite)}, no},
		{blockArguments{a: blockAt(0, one, minusInfinite)}, no},
		{blockArguments{a: blockAt(0, quiet, one)}, no},
		{blockArguments{a: blockAt(0, one, noNumber, one)}, no},
		{blockArguments{a: blockAt(0, minusNoNumber)}, no},
		{blockArguments{a: blockAt(0, 256)}, no},
		{blockArguments{a: blockAt(0, -1)}, no},
	})
}

func TestSharedPowerAtEdges(t *testing.T) {
	checkBlockEdges(t, "SharedPower", example, []blockEdge{
		{rawList(0), []int{0}},
		{rawList(0, 0, 0), []int{0}},
		{rawList(1), []int{-7}},
		{rawList(-1), []int{-7}},
		{rawList(0, 1, 0), []int{-7}},
		{rawList(127), []int{-1}},
		{rawList(128), []int{0}},
		{rawList(255), []int{0}},
		{rawList(256), []int{1}},
		{rawList(255, -256), []int{1}},
		{rawList(1000000), []int{12}},
		{rawList(-1000000, 3), []int{12}},
		{rawList(slices.Repeat([]int{-1000000}, 16)...), []int{12}},
		{rawList(slices.Repeat([]int{0}, 16)...), []int{0}},
		{rawList(1000001), nil},
		{rawList(-1000001), nil},
		{rawList(slices.Repeat([]int{0}, 17)...), nil},
		{rawList(), nil},
		{rawList([]int{}...), nil},
	})
	// The greatest power of two is 2 there.
	checkBlockEdges(t, "SharedPower", smallest, []blockEdge{
		{rawList(0), []int{0}},
		{rawList(1), []int{-1}},
		{rawList(2), []int{0}},
		{rawList(3), []int{0}},
		{rawList(4), []int{1}},
		{rawList(-1000000), []int{18}},
	})
	// And 2^15 there.
	checkBlockEdges(t, "SharedPower", largest, []blockEdge{
		{rawList(0), []int{0}},
		{rawList(1), []int{-15}},
		{rawList(32767), []int{-1}},
		{rawList(-32768), []int{0}},
		{rawList(65535), []int{0}},
		{rawList(65536), []int{1}},
		{rawList(1000000), []int{4}},
	})
}

// TestBlockOfGreatNumbers: numbers above 240 become 240 with their sign, where they
// are rounded down and where they would be infinite.
func TestBlockOfGreatNumbers(t *testing.T) {
	for _, mode := range modes {
		for _, n := range []int{241, 247, 248, 255} {
			checkBlockEdges(t, "BlockOf", example, []blockEdge{
				{blockArguments{list: []int{n}, mode: mode}, []int{0, 1, greatest}},
				{blockArguments{list: []int{-n, n}, mode: mode}, []int{0, 2, minusGreatest, greatest}},
			})
		}
		checkBlockEdges(t, "BlockOf", example, []blockEdge{
			{blockArguments{list: []int{511, -3}, mode: mode}, []int{1, 2, greatest, 60 + 128}},
			{blockArguments{list: []int{1000000, -1000000}, mode: mode}, []int{12, 2, greatest, minusGreatest}},
		})
	}
	checkBlockEdges(t, "BlockOf", smallest, []blockEdge{
		{rawList(3), []int{0, 1, 5}},
		{rawList(-7, 6, 5, 4), []int{1, 4, 13, 5, 4, 4}},
		{blockArguments{list: []int{-7, 6, 5, 4}, mode: impl.ModeAway}, []int{1, 4, 13, 5, 5, 4}},
		{blockArguments{list: []int{-7, 6, 5, 4}, mode: impl.ModeUp}, []int{1, 4, 13, 5, 5, 4}},
		{blockArguments{list: []int{-7, 6, -5, 4}, mode: impl.ModeDown}, []int{1, 4, 13, 5, 13, 4}},
	})
}

func TestBlockOfZeros(t *testing.T) {
	for _, mode := range modes {
		for _, f := range allFormats() {
			checkBlockEdges(t, "BlockOf", f, []blockEdge{
				{blockArguments{list: []int{0}, mode: mode}, []int{0, 1, 0}},
				{blockArguments{list: make([]int, 16), mode: mode}, append([]int{0, 16}, make([]int, 16)...)},
			})
			checkBlockEdges(t, "ErrorOfBlock", f, []blockEdge{{blockArguments{list: make([]int, 16), mode: mode}, []int{0, 0}}})
			checkBlockEdges(t, "BestPower", f, []blockEdge{{blockArguments{list: make([]int, 16), mode: mode}, []int{-2}}})
		}
	}
	// 983040 is 240 times 2^12, by which 1 is an eighth of the unit.
	small := []int{983040, -1, 1, 0}
	checkBlockEdges(t, "BlockOf", example, []blockEdge{
		{rawList(small...), []int{12, 4, greatest, minusZero, plusZero, plusZero}},
		{blockArguments{list: small, mode: impl.ModeUp}, []int{12, 4, greatest, minusZero, unit, plusZero}},
		{blockArguments{list: small, mode: impl.ModeDown}, []int{12, 4, greatest, minusUnit, plusZero, plusZero}},
		{blockArguments{list: small, mode: impl.ModeOdd}, []int{12, 4, greatest, minusUnit, unit, plusZero}},
	})
}

// TestBlockWithFarPowers: all numbers become the greatest value, or 0.
func TestBlockWithFarPowers(t *testing.T) {
	numbers := []int{1, -1, 1000000, -1000000, 0}
	for _, mode := range modes {
		checkBlockEdges(t, "BlockWith", example, []blockEdge{
			{blockArguments{list: numbers, power: -40, mode: mode}, []int{-40, 5, greatest, minusGreatest, greatest, minusGreatest, plusZero}},
		})
	}
	far := []int{40, 5, plusZero, minusZero, plusZero, minusZero, plusZero}
	checkBlockEdges(t, "BlockWith", example, []blockEdge{
		{blockArguments{list: numbers, power: 40, mode: impl.ModeEven}, far},
		{blockArguments{list: numbers, power: 40, mode: impl.ModeAway}, far},
		{blockArguments{list: numbers, power: 40, mode: impl.ModeZero}, far},
		{blockArguments{list: numbers, power: 40, mode: impl.ModeUp}, []int{40, 5, unit, minusZero, unit, minusZero, plusZero}},
		{blockArguments{list: numbers, power: 40, mode: impl.ModeDown}, []int{40, 5, plusZero, minusUnit, plusZero, minusUnit, plusZero}},
		{blockArguments{list: numbers, power: 40, mode: impl.ModeOdd}, []int{40, 5, unit, minusUnit, unit, minusUnit, plusZero}},
		// Times 2^17 the unit is 256, and 128 as near to it as to the even zero.
		{blockArguments{list: []int{256, 128, 129, -128}, power: 17}, []int{17, 4, unit, plusZero, unit, minusZero}},
		{blockArguments{list: []int{1}, power: 41}, nil},
		{blockArguments{list: []int{1}, power: -41}, nil},
		{blockArguments{list: []int{1000001}, power: 0}, nil},
		{blockArguments{list: nil, power: 0}, nil},
	})
}

func TestErrorsAtBounds(t *testing.T) {
	for _, c := range []struct {
		list     []int
		mode     int
		greatest []int
		half     []int
	}{
		// 136 is as near to 128 as to 144.
		{list: []int{136}, greatest: []int{1, 3}, half: []int{1, 3}},
		{list: []int{1, -136, 3}, greatest: []int{1, 3}, half: []int{1, 3}},
		{list: []int{136}, mode: impl.ModeAway, greatest: []int{1, 3}, half: []int{1, 3}},
		{list: []int{240}, greatest: []int{0, 0}, half: []int{1, 3}},
		// These are greater than the greatest finite value times 2^s.
		{list: []int{247}, greatest: []int{7, 0}, half: []int{1, 3}},
		{list: []int{255}, greatest: []int{15, 0}, half: []int{1, 3}},
		{list: []int{-255}, mode: impl.ModeAway, greatest: []int{15, 0}, half: []int{1, 3}},
		{list: []int{511, 3}, greatest: []int{31, 0}, half: []int{1, 4}},
		{list: []int{143}, mode: impl.ModeZero, greatest: []int{15, 0}, half: []int{1, 3}},
		{list: []int{129}, mode: impl.ModeUp, greatest: []int{15, 0}, half: []int{1, 3}},
		{list: []int{129}, mode: impl.ModeOdd, greatest: []int{15, 0}, half: []int{1, 3}},
		{list: []int{-143}, mode: impl.ModeDown, greatest: []int{1, 0}, half: []int{1, 3}},
		{list: []int{1}, greatest: []int{0, 0}, half: []int{1, -4}},
		{list: []int{0}, greatest: []int{0, 0}, half: []int{1, 3}},
		// Less 240 times 2^12 it is 16960.
		{list: []int{1000000}, greatest: []int{265, 6}, half: []int{1, 15}},
	} {
		x := blockArguments{list: c.list, mode: c.mode}
		checkBlockEdges(t, "ErrorOfBlock", example, []blockEdge{{x, c.greatest}})
		checkBlockEdges(t, "BoundOfBlock", example, []blockEdge{{x, c.half}})
	}
}

func TestBestPowerAtEdges(t *testing.T) {
	checkBlockEdges(t, "BestPower", example, []blockEdge{
		// All powers from the shared one on have no error.
		{rawList(1), []int{-7}},
		{rawList(-8, 8, 3), []int{-4}},
		// The same error for these powers, and a greater one for lesser powers.
		{rawList(17), []int{-3}},
		{rawList(136), []int{0}},
		// All five have none.
		{rawList(0), []int{-2}},
		// 255 is 240 by the shared power, and 256 by the next one.
		{rawList(255), []int{1}},
		{rawList(-255, 1), []int{1}},
		{rawList(247), []int{0}},
		{rawList(248), []int{0}},
		{rawList(249), []int{1}},
		{blockArguments{list: []int{255}, mode: impl.ModeZero}, []int{0}},
		{blockArguments{list: []int{-255}, mode: impl.ModeDown}, []int{1}},
	})
}

func TestMoveBlockAtEdges(t *testing.T) {
	checkBlockEdges(t, "MoveBlock", example, []blockEdge{
		{blockArguments{a: blockAt(3, one, minusZero), k: 0}, []int{3, 2, one, minusZero}},
		{blockArguments{a: blockAt(-40, one), k: 80}, []int{40, 1, one}},
		{blockArguments{a: blockAt(40, one), k: -80}, []int{-40, 1, one}},
		{blockArguments{a: blockAt(-40, one), k: 81}, nil},
		{blockArguments{a: blockAt(40, one), k: -81}, nil},
		{blockArguments{a: blockAt(-39, one), k: 80}, nil},
		{blockArguments{a: blockAt(39, one), k: -80}, nil},
		{blockArguments{a: blockAt(40, one), k: 1}, nil},
		{blockArguments{a: blockAt(-40, one), k: -1}, nil},
		{blockArguments{a: blockAt(0, one), k: 40}, []int{40, 1, one}},
		{blockArguments{a: blockAt(0, one), k: 41}, nil},
		{blockArguments{a: blockAt(0, one), k: -41}, nil},
		{blockArguments{a: impl.Block{Power: 5}, k: -5}, []int{0, 0}},
		{blockArguments{a: impl.Block{Power: 5}, k: -45}, []int{-40, 0}},
		{blockArguments{a: impl.Block{Power: 5}, k: -46}, nil},
	})
}

func TestChangeBlockAtEdges(t *testing.T) {
	fiveAndThree := impl.Format{Exponent: 5, Fraction: 3}
	block := blockAt(-7, plusZero, minusZero, unit, minusUnit, one, greatest, minusGreatest)
	// The bias is 15 there: the unit is 2^-14 times 1 / 8, and 2^-9 normal.
	wider := []int{-7, 7, 0, 0, 6 << 3, 6<<3 + 256, 15 << 3, 22<<3 + 7, 22<<3 + 7 + 256}
	for _, mode := range modes {
		checkBlockEdges(t, "ChangeBlock", example, []blockEdge{
			{blockArguments{a: block, g: fiveAndThree, mode: mode}, wider},
			{blockArguments{a: block, g: example, mode: mode}, []int{-7, 7, plusZero, plusZero, unit, minusUnit, one, greatest, minusGreatest}},
			{blockArguments{a: impl.Block{Power: 40}, g: largest, mode: mode}, []int{40, 0}},
		})
	}
}

// TestChangeBlockToNarrower: the values there are 0, 1 / 2, 1, 3 / 2, 2 and 3.
func TestChangeBlockToNarrower(t *testing.T) {
	// 66 and 70 are 2.5 and 3.5.
	block := blockAt(1, plusZero, minusZero, unit, minusUnit, one, 66, 70, greatest, minusGreatest)
	for mode, want := range [][]int{
		impl.ModeEven: {1, 9, 0, 0, 0, 8, 2, 4, 5, 5, 13},
		impl.ModeAway: {1, 9, 0, 0, 0, 8, 2, 5, 5, 5, 13},
		impl.ModeZero: {1, 9, 0, 0, 0, 8, 2, 4, 5, 5, 13},
		impl.ModeUp:   {1, 9, 0, 0, 1, 8, 2, 5, 5, 5, 13},
		impl.ModeDown: {1, 9, 0, 0, 0, 9, 2, 4, 5, 5, 13},
		impl.ModeOdd:  {1, 9, 0, 0, 1, 9, 2, 5, 5, 5, 13},
	} {
		checkBlockEdges(t, "ChangeBlock", example, []blockEdge{{blockArguments{a: block, g: smallest, mode: mode}, want}})
	}
}

func TestBitsOfBlockAtEdges(t *testing.T) {
	for f, edges := range map[impl.Format][]blockEdge{
		example:  {{blockArguments{n: 0}, []int{8}}, {blockArguments{n: 1}, []int{16}}, {blockArguments{n: 16}, []int{136}}},
		smallest: {{blockArguments{n: 0}, []int{8}}, {blockArguments{n: 16}, []int{72}}},
		largest:  {{blockArguments{n: 0}, []int{8}}, {blockArguments{n: 15}, []int{248}}, {blockArguments{n: 16}, []int{264}}},
	} {
		checkBlockEdges(t, "BitsOfBlock", f, edges)
		checkBlockEdges(t, "BitsOfBlock", f, []blockEdge{{blockArguments{n: -1}, nil}, {blockArguments{n: 17}, nil}})
	}
}

func TestCutBlockAtEdges(t *testing.T) {
	block := blockAt(-3, one, two, minusZero)
	checkBlockEdges(t, "CutBlock", example, []blockEdge{
		{blockArguments{a: block, from: 0, to: 3}, []int{-3, 3, one, two, minusZero}},
		{blockArguments{a: block, from: 0, to: 1}, []int{-3, 1, one}},
		{blockArguments{a: block, from: 1, to: 3}, []int{-3, 2, two, minusZero}},
		{blockArguments{a: block, from: 2, to: 3}, []int{-3, 1, minusZero}},
		{blockArguments{a: block, from: 0, to: 0}, []int{-3, 0}},
		{blockArguments{a: block, from: 1, to: 1}, []int{-3, 0}},
		{blockArguments{a: block, from: 3, to: 3}, []int{-3, 0}},
		{blockArguments{a: impl.Block{Power: 4}, from: 0, to: 0}, []int{4, 0}},
		{blockArguments{a: block, from: 2, to: 1}, nil},
		{blockArguments{a: block, from: 3, to: 0}, nil},
		{blockArguments{a: block, from: -1, to: 2}, nil},
		{blockArguments{a: block, from: -1, to: -1}, nil},
		{blockArguments{a: block, from: 0, to: 4}, nil},
		{blockArguments{a: block, from: 4, to: 4}, nil},
		{blockArguments{a: block, from: 4, to: 3}, nil},
		{blockArguments{a: impl.Block{Power: 4}, from: 0, to: 1}, nil},
		// There is room behind the patterns, but nothing that may be handed out.
		{blockArguments{a: blockAt(-3, []int{one, two, minusZero}[:2]...), from: 0, to: 3}, nil},
	})
}
