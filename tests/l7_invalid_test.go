package tests

import (
	"math"
	"slices"
	"strings"
	"testing"

	"loop.example/g01178/impl"
)

// takes reports whether a function of blockCalls takes something.
func takes(list string, word string) bool {
	return slices.Contains(strings.Fields(list), word)
}

// wild are numbers of which few are good for anything.
var wild = []int{math.MinInt, math.MinInt + 1, -1000001, -129, -81, -41, -1, 0, 1, 2, 5, 16, 17, 41, 81, 120, 128, 255, 256, 65535, 1000001, 1 << 40, math.MaxInt}

func notRaws() [][]int {
	lists := [][]int{nil, {}, slices.Repeat([]int{0}, 17), slices.Repeat([]int{1}, 17), slices.Repeat([]int{-3}, 1000)}
	for _, n := range []int{1000001, -1000001, 1 << 40, math.MinInt, math.MinInt + 1, math.MaxInt} {
		lists = append(lists, []int{n}, []int{1, n}, []int{n, 1}, []int{0, n, 0})
		for place := range impl.MaxBlock {
			list := make([]int, impl.MaxBlock)
			list[place] = n
			lists = append(lists, list)
		}
	}
	return lists
}

func notBlocks(f impl.Format) []impl.Block {
	blocks := []impl.Block{}
	for _, power := range []int{-41, 41, -42, 42, -80, 80, 1 << 40, math.MinInt, math.MinInt + 1, math.MaxInt} {
		blocks = append(blocks, impl.Block{Power: power}, impl.Block{Power: power, Patterns: []int{0, 1, 1}})
	}
	blocks = append(blocks, impl.Block{Patterns: make([]int, 17)}, impl.Block{Power: 3, Patterns: slices.Repeat([]int{1}, 1000)})
	for _, p := range refused(f) {
		blocks = append(blocks, impl.Block{Patterns: []int{p}}, impl.Block{Power: -40, Patterns: []int{1, p, 0}})
	}
	for place := range impl.MaxBlock {
		for _, p := range []int{-1, 1 << widthOf(f), notFinite(f)[0], notFinite(f)[1]} {
			patterns := make([]int, impl.MaxBlock)
			patterns[place] = p
			blocks = append(blocks, impl.Block{Patterns: patterns})
		}
	}
	return blocks
}

// TestPlainBlocksAreTaken: so that in the tests below a single argument lets a call
// fail.
func TestPlainBlocksAreTaken(t *testing.T) {
	for _, f := range allFormats() {
		for _, c := range blockCalls {
			if _, ok := c.call(f, plainBlock()); !ok {
				t.Errorf("%s of %v and %v fails", c.what, f, plainBlock())
			}
		}
	}
}

func TestBlocksRequireFormats(t *testing.T) {
	for _, f := range notFormats() {
		for _, c := range blockCalls {
			for _, x := range []blockArguments{plainBlock(), {list: []int{0}}, {list: []int{0}, a: impl.Block{Power: 40}, b: impl.Block{Power: 40}, g: largest}} {
				got, ok := c.call(f, x)
				wantResults(t, c.what, f, x, got, ok, nil, false)
			}
			if takes(c.takes, "g") {
				for _, x := range []blockArguments{plainBlock(), {}} {
					x.g = f
					got, ok := c.call(example, x)
					wantResults(t, c.what, example, x, got, ok, nil, false)
				}
			}
		}
	}
}

func TestBlocksRequireRawLists(t *testing.T) {
	for _, f := range allFormats() {
		for _, c := range blockCalls {
			if !takes(c.takes, "list") {
				continue
			}
			for _, list := range notRaws() {
				x := plainBlock()
				x.list = list
				got, ok := c.call(f, x)
				wantResults(t, c.what, f, list, got, ok, nil, false)
			}
			for _, list := range [][]int{{1000000}, {-1000000}, slices.Repeat([]int{-1000000, 1000000}, 8)} {
				x := plainBlock()
				x.list = list
				if _, ok := c.call(f, x); !ok {
					t.Errorf("%s of %v and %v fails", c.what, f, list)
				}
			}
		}
	}
}

func TestBlocksAreRequired(t *testing.T) {
	for _, f := range allFormats() {
		for _, b := range notBlocks(f) {
			is, ok := impl.IsBlock(f, b)
			wantResults(t, "IsBlock", f, b, []int{oneIf(is)}, ok, []int{0}, true)
			for _, c := range blockCalls {
				x := plainBlock()
				switch {
				case takes(c.takes, "blocks"):
					x.a, x.b = fitting(b), b
					got, ok := c.call(f, x)
					wantResults(t, c.what, f, x, got, ok, nil, false)
					x.a, x.b = x.b, x.a
				case takes(c.takes, "block"):
					x.a, x.from, x.to = b, 0, 0
				default:
					continue
				}
				got, ok := c.call(f, x)
				wantResults(t, c.what, f, x, got, ok, nil, false)
			}
		}
	}
}

// fitting returns a block, if there is one, with as many patterns as another one.
func fitting(b impl.Block) impl.Block {
	return impl.Block{Patterns: make([]int, len(b.Patterns))}
}

// TestBlocksRequireNumbers: each number just out of range, and far from it.
func TestBlocksRequireNumbers(t *testing.T) {
	for _, f := range []impl.Format{example, smallest, largest} {
		for _, c := range blockCalls {
			for _, n := range []int{math.MinInt, math.MinInt + 1, math.MinInt + 3, -1 << 40, 1 << 40, math.MaxInt - 3, math.MaxInt} {
				for _, word := range strings.Fields(c.takes) {
					checkOutOfRange(t, c.what, c.call, f, word, n)
				}
			}
			for word, numbers := range map[string][]int{
				"mode": notModes(), "power": {-41, 41}, "k": {-81, 81, -44, 38}, "n": {-1, 17}, "from": {-1, 3, 4}, "to": {-1, 0, 4},
			} {
				for _, n := range numbers {
					if takes(c.takes, word) {
						checkOutOfRange(t, c.what, c.call, f, word, n)
					}
				}
			}
		}
	}
}

// checkOutOfRange calls with plain arguments but one.
func checkOutOfRange(t *testing.T, what string, call func(impl.Format, blockArguments) ([]int, bool), f impl.Format, word string, n int) {
	t.Helper()
	x := plainBlock()
	numbers := map[string]*int{"mode": &x.mode, "power": &x.power, "k": &x.k, "n": &x.n, "from": &x.from, "to": &x.to}
	if numbers[word] == nil {
		return
	}
	*numbers[word] = n
	got, ok := call(f, x)
	wantResults(t, what, f, x, got, ok, nil, false)
}

// surrounded has a list as a part of a longer one, so that there is something in
// front of it and in the room behind it.
func surrounded(list []int) ([]int, []int) {
	around := slices.Concat([]int{-7}, list, []int{-8, 1, 1, -9})
	return around, around[1 : 1+len(list)]
}

// TestBlocksStay: no list and no block is changed, nor what lies around them.
func TestBlocksStay(t *testing.T) {
	for _, f := range allFormats() {
		for i, b := range someBlocks(f) {
			list := someRaws()[i%len(someRaws())]
			x := blockArguments{mode: i % len(modes), power: b.Power, g: smallest, to: len(b.Patterns)}
			aroundList, insideList := surrounded(list)
			aroundFirst, first := surrounded(b.Patterns)
			aroundSecond, second := surrounded(slices.Sorted(slices.Values(b.Patterns)))
			x.list, x.a, x.b = insideList, impl.Block{Power: b.Power, Patterns: first}, impl.Block{Patterns: second}
			before := slices.Concat(aroundList, aroundFirst, aroundSecond)
			for _, c := range blockCalls {
				c.call(f, x)
				if !slices.Equal(slices.Concat(aroundList, aroundFirst, aroundSecond), before) {
					t.Fatalf("%s of %v leaves %v, %v and %v", c.what, f, aroundList, aroundFirst, aroundSecond)
				}
			}
		}
	}
}

// madeBlocks returns the blocks that functions make of a block and of a raw list.
func madeBlocks(f impl.Format, b impl.Block, list []int, mode int) map[string]impl.Block {
	made := map[string]impl.Block{}
	made["BlockOf"], _ = impl.BlockOf(f, list, mode)
	made["BlockWith"], _ = impl.BlockWith(f, list, 0, mode)
	made["MoveBlock"], _ = impl.MoveBlock(f, b, 0)
	made["MoveBlock by 1"], _ = impl.MoveBlock(f, b, -oneIf(b.Power > 0))
	made["ChangeBlock"], _ = impl.ChangeBlock(f, b, f, mode)
	made["CutBlock to the end"], _ = impl.CutBlock(f, b, 0, len(b.Patterns))
	made["CutBlock from the middle"], _ = impl.CutBlock(f, b, len(b.Patterns)/2, len(b.Patterns))
	made["CutBlock to the middle"], _ = impl.CutBlock(f, b, 0, len(b.Patterns)/2)
	return made
}

// TestBlocksAreNew: what is written into a result, and into the room behind it, is
// found neither in the arguments nor in what is returned the next time.
func TestBlocksAreNew(t *testing.T) {
	for _, f := range allFormats() {
		for i, b := range someBlocks(f) {
			aroundPatterns, patterns := surrounded(b.Patterns)
			aroundList, list := surrounded(someRaws()[i%len(someRaws())])
			before := slices.Concat(aroundPatterns, aroundList)
			given := impl.Block{Power: b.Power, Patterns: patterns}
			first := madeBlocks(f, given, list, i%len(modes))
			kept := map[string][]int{}
			for what, made := range first {
				kept[what] = flat(made)
				overwrite(made.Patterns)
				if !slices.Equal(slices.Concat(aroundPatterns, aroundList), before) {
					t.Fatalf("%s of %v and %v shares memory with its arguments", what, f, b)
				}
			}
			for what, made := range madeBlocks(f, given, list, i%len(modes)) {
				wantResults(t, what, f, b, flat(made), true, kept[what], true)
			}
		}
	}
	values, _ := impl.ValuesOfBlock(example, blockAt(1, one, two))
	kept := slices.Clone(values)
	clear(values[:cap(values)])
	values, ok := impl.ValuesOfBlock(example, blockAt(1, one, two))
	wantResults(t, "ValuesOfBlock", example, "the same again", flatDyadics(values), ok, flatDyadics(kept), true)
}

// TestBlocksAreTotal: a panic in one of the calls fails the test, and so does a
// result beside false.
func TestBlocksAreTotal(t *testing.T) {
	for _, a := range wild {
		for _, b := range wild {
			for _, f := range []impl.Format{example, smallest, largest, {Exponent: a, Fraction: b}, {Exponent: 4, Fraction: a}, {Exponent: b, Fraction: 3}} {
				checkBlocksAreTotal(t, f, a, b)
			}
		}
	}
}

func checkBlocksAreTotal(t *testing.T, f impl.Format, a, b int) {
	t.Helper()
	block := impl.Block{Power: a, Patterns: []int{b, 1, a}}
	arguments := []blockArguments{
		{list: []int{a, b}, a: block, b: block, g: f, power: a, mode: b, k: a, n: b, from: a, to: b},
		{list: []int{b, 1, a}, a: impl.Block{Power: a}, b: impl.Block{Power: b}, g: impl.Format{Exponent: a, Fraction: b}, power: b, k: b, n: a, from: b, to: a},
		{list: slices.Repeat([]int{a}, 17), a: impl.Block{Power: 1, Patterns: []int{1, 0, 1}}, b: block, power: a, mode: a, k: a, from: a, to: b},
		{a: impl.Block{Power: b, Patterns: slices.Repeat([]int{1}, 16)}, b: impl.Block{Power: a, Patterns: slices.Repeat([]int{1}, 16)}, k: a, from: 1, to: b},
	}
	for _, x := range arguments {
		for _, c := range blockCalls {
			if got, ok := c.call(f, x); !ok && got != nil {
				t.Fatalf("%s of %v and %v fails with %v", c.what, f, x, got)
			}
		}
	}
}
