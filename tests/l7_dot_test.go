package tests

import (
	"slices"
	"testing"

	"loop.example/g01178/impl"
)

// Patterns of the format with 5 and 10: the unit is 2^-24.
const (
	topOfLargest      = 30 << 10 // 2^15
	greatestOfLargest = 31<<10 - 1
	minusInLargest    = 1 << 15
)

// powerInLargest returns the pattern with 2^exp, exp in -14..15.
func powerInLargest(exp int) int {
	return (exp + 15) << 10
}

func checkDot(t *testing.T, r ruler, a, b impl.Block) {
	t.Helper()
	want, fine := r.dot(a, b)
	got, ok := impl.DotBlocks(r.f, a, b)
	wantResults(t, "DotBlocks", r.f, []any{a, b}, []int{got.Num, got.Exp}, ok, []int{want.Num, want.Exp}, fine)
}

// TestDotProducts holds them against sums of rationals: of blocks with themselves,
// with the patterns in the other order, and with those that cancel.
func TestDotProducts(t *testing.T) {
	for _, f := range allFormats() {
		r := rulers()[f]
		for _, b := range someBlocks(f) {
			reversed := slices.Clone(b.Patterns)
			slices.Reverse(reversed)
			for _, power := range blockPowers {
				checkDot(t, r, b, impl.Block{Power: power, Patterns: b.Patterns})
				checkDot(t, r, impl.Block{Power: power, Patterns: reversed}, b)
			}
			checkCancelled(t, r, b)
		}
	}
}

// checkCancelled: each product comes with both signs, so that the last sum is 0.
func checkCancelled(t *testing.T, r ruler, b impl.Block) {
	t.Helper()
	half := b.Patterns[:len(b.Patterns)/2]
	twice := impl.Block{Power: b.Power, Patterns: slices.Concat(half, half)}
	opposite := impl.Block{Power: -1, Patterns: withOpposites(r.signBit(), slices.Concat(half, half))}
	checkDot(t, r, twice, opposite)
	if got, ok := impl.DotBlocks(r.f, twice, opposite); ok && got != (impl.Dyadic{}) {
		t.Fatalf("DotBlocks of %v, %v and %v: got %v, want 0", r.f, twice, opposite, got)
	}
}

// TestPairsOfPatternsHaveProducts: all pairs of narrow formats, and chosen ones of
// others, at powers by which products have little room.
func TestPairsOfPatternsHaveProducts(t *testing.T) {
	for _, f := range allFormats() {
		r := rulers()[f]
		var finite []int
		for _, p := range patternsFor(f) {
			if r.finite(p) {
				finite = append(finite, p)
			}
		}
		for _, power := range []int{-40, 0, 40} {
			for _, p := range finite {
				for others := range slices.Chunk(finite, impl.MaxBlock) {
					checkDot(t, r, impl.Block{Power: power, Patterns: slices.Repeat([]int{p}, len(others))}, impl.Block{Power: power, Patterns: others})
				}
			}
		}
	}
}

// TestProductsFarApart: 2^30 and powers of two from just above it to so far below it
// that there is no room for both in an int, in both orders, and with both signs.
func TestProductsFarApart(t *testing.T) {
	r := rulers()[largest]
	patterns := []int{1, 2, 16, powerInLargest(-14), powerInLargest(0), topOfLargest}
	for _, p := range patterns {
		for exp := range 16 {
			for _, sign := range []int{0, minusInLargest} {
				first, second := []int{topOfLargest, p}, []int{topOfLargest, powerInLargest(-exp+1) + sign}
				checkDot(t, r, blockAt(0, first...), blockAt(0, second...))
				slices.Reverse(first)
				slices.Reverse(second)
				checkDot(t, r, blockAt(-3, first...), blockAt(7, second...))
			}
		}
	}
}

func TestDotProductsAtEdges(t *testing.T) {
	for _, c := range []struct {
		why  string
		a, b impl.Block
		want []int
	}{
		{"nothing", impl.Block{}, impl.Block{}, []int{0, 0}},
		{"nothing, with powers", impl.Block{Power: 40}, impl.Block{Power: -40, Patterns: []int{}}, []int{0, 0}},
		{"1 and 1", impl.Block{Patterns: []int{powerInLargest(0)}}, impl.Block{Patterns: []int{powerInLargest(0)}}, []int{1, 0}},
		{"more on the left", impl.Block{Patterns: []int{1, 1}}, impl.Block{Patterns: []int{1}}, nil},
		{"more on the right", impl.Block{Patterns: []int{1}}, impl.Block{Patterns: []int{1, 0}}, nil},
		{"nothing on the right", impl.Block{Patterns: []int{0}}, impl.Block{}, nil},
		{"zeros of both signs", impl.Block{Patterns: []int{0, minusInLargest, minusInLargest}}, impl.Block{Patterns: []int{1, 1, minusInLargest}}, []int{0, 0}},
		{"zeros at the least power", impl.Block{Power: -40, Patterns: []int{0, minusInLargest}}, impl.Block{Power: -40, Patterns: []int{0, 1}}, []int{0, 0}},
		{"1 less 1", impl.Block{Patterns: []int{powerInLargest(0), powerInLargest(0)}}, impl.Block{Patterns: []int{powerInLargest(0), powerInLargest(0) + minusInLargest}}, []int{0, 0}},
		{"what is left when great ones cancel", impl.Block{Patterns: []int{topOfLargest, topOfLargest, 1}}, impl.Block{Patterns: []int{topOfLargest, topOfLargest + minusInLargest, 1}}, []int{1, -48}},
		{"the same in an order with too many places", impl.Block{Patterns: []int{topOfLargest, 1, topOfLargest}}, impl.Block{Patterns: []int{topOfLargest, 1, topOfLargest + minusInLargest}}, nil},
		{"places for 2^49 and 1", impl.Block{Patterns: []int{powerInLargest(15), powerInLargest(-10)}}, impl.Block{Patterns: []int{powerInLargest(14), powerInLargest(-10)}}, []int{1<<49 + 1, -20}},
		{"places for 2^50 less 1", impl.Block{Patterns: []int{powerInLargest(15), powerInLargest(-10)}}, impl.Block{Patterns: []int{powerInLargest(15), powerInLargest(-10) + minusInLargest}}, []int{1<<50 - 1, -20}},
		{"none for 2^50 and 1", impl.Block{Patterns: []int{powerInLargest(15), powerInLargest(-10)}}, impl.Block{Patterns: []int{powerInLargest(15), powerInLargest(-10)}}, nil},
		{"none for it, and then less 1", impl.Block{Patterns: []int{powerInLargest(15), powerInLargest(-10), powerInLargest(-10)}}, impl.Block{Patterns: []int{powerInLargest(15), powerInLargest(-10), powerInLargest(-10) + minusInLargest}}, nil},
		{"2^100", impl.Block{Power: 40, Patterns: []int{powerInLargest(10)}}, impl.Block{Power: 40, Patterns: []int{powerInLargest(10)}}, []int{1, 100}},
		{"2^101", impl.Block{Power: 40, Patterns: []int{powerInLargest(10)}}, impl.Block{Power: 40, Patterns: []int{powerInLargest(11)}}, nil},
		{"2^101 less 2^101", impl.Block{Power: 40, Patterns: []int{powerInLargest(10), powerInLargest(10)}}, impl.Block{Power: 40, Patterns: []int{powerInLargest(11), powerInLargest(11) + minusInLargest}}, nil},
		{"2^101 less 2^100", impl.Block{Power: 40, Patterns: []int{powerInLargest(11), powerInLargest(10)}}, impl.Block{Power: 40, Patterns: []int{powerInLargest(10), powerInLargest(10) + minusInLargest}}, nil},
		{"2^100 and 2^101", impl.Block{Power: 40, Patterns: []int{powerInLargest(10), powerInLargest(11)}}, impl.Block{Power: 40, Patterns: []int{powerInLargest(10), powerInLargest(10)}}, []int{3, 100}},
		{"2^100 and 2^100", impl.Block{Power: 40, Patterns: []int{powerInLargest(10), powerInLargest(10)}}, impl.Block{Power: 40, Patterns: []int{powerInLargest(10), powerInLargest(10)}}, nil},
		{"2^110", impl.Block{Power: 40, Patterns: []int{topOfLargest}}, impl.Block{Power: 40, Patterns: []int{topOfLargest}}, nil},
		{"2^-100", impl.Block{Power: -40, Patterns: []int{powerInLargest(-10)}}, impl.Block{Power: -40, Patterns: []int{powerInLargest(-10)}}, []int{1, -100}},
		{"2^-101", impl.Block{Power: -40, Patterns: []int{powerInLargest(-10)}}, impl.Block{Power: -40, Patterns: []int{powerInLargest(-11)}}, nil},
		{"2^-101 and 2^-101", impl.Block{Power: -40, Patterns: []int{powerInLargest(-10), powerInLargest(-10)}}, impl.Block{Power: -40, Patterns: []int{powerInLargest(-11), powerInLargest(-11)}}, nil},
		{"2^-128", impl.Block{Power: -40, Patterns: []int{1}}, impl.Block{Power: -40, Patterns: []int{1}}, nil},
		{"the greatest value and itself", impl.Block{Power: 40, Patterns: []int{greatestOfLargest}}, impl.Block{Power: 40, Patterns: []int{greatestOfLargest}}, []int{2047 * 2047, 90}},
		{"sixteen times that", impl.Block{Patterns: slices.Repeat([]int{greatestOfLargest}, 16)}, impl.Block{Patterns: slices.Repeat([]int{greatestOfLargest}, 16)}, []int{2047 * 2047, 14}},
	} {
		got, ok := blockCall(t, "DotBlocks")(largest, blockArguments{a: c.a, b: c.b})
		wantResults(t, "DotBlocks for "+c.why, largest, []any{c.a, c.b}, got, ok, c.want, c.want != nil)
	}
}
