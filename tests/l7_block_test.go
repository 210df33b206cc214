package tests

import (
	"math"
	"math/big"
	"slices"
	"testing"

	"loop.example/g01178/impl"
)

func TestBlocksAreTold(t *testing.T) {
	for _, f := range allFormats() {
		r := rulers()[f]
		for p := range 1 << widthOf(f) {
			for _, list := range [][]int{{p}, {p, 0}, {0, 1, 0, p}} {
				is, ok := impl.IsBlock(f, impl.Block{Power: 1, Patterns: list})
				wantInt(t, "IsBlock", f, p, oneIf(is), ok, oneIf(r.finite(p)))
			}
		}
		for _, b := range someBlocks(f) {
			is, ok := impl.IsBlock(f, b)
			wantInt(t, "IsBlock", f, b.Power, oneIf(is), ok, 1)
		}
	}
}

func TestSharedPowersAtPowersOfTwo(t *testing.T) {
	for _, f := range allFormats() {
		top := rulers()[f].topOf()
		for i := range 20 {
			for _, c := range []struct{ m, want int }{
				{1 << i, i - top},
				{2<<i - 1, i - top},
				{1<<i | 1<<i/2, i - top},
			} {
				if c.m > impl.MaxRaw {
					continue
				}
				for _, list := range [][]int{{c.m}, {-c.m}, {0, c.m, 0}, {1, -1, -c.m}, slices.Repeat([]int{-c.m, c.m}, 8)} {
					got, ok := impl.SharedPower(f, list)
					wantInt(t, "SharedPower", f, list[0], got, ok, c.want)
				}
			}
		}
		got, ok := impl.SharedPower(f, []int{impl.MaxRaw})
		wantInt(t, "SharedPower", f, impl.MaxRaw, got, ok, 19-top)
	}
}

// TestBlocksOfLists holds shared powers, blocks and their errors and best powers
// against the document's words.
func TestBlocksOfLists(t *testing.T) {
	for _, f := range allFormats() {
		for _, list := range someRaws() {
			checkShared(t, f, list)
			for _, mode := range modes {
				checkBlocksOf(t, f, list, mode)
			}
		}
	}
}

func checkShared(t *testing.T, f impl.Format, list []int) {
	t.Helper()
	r := rulers()[f]
	shared := r.sharedPower(list)
	got, ok := impl.SharedPower(f, list)
	wantResults(t, "SharedPower", f, list, []int{got}, ok, []int{shared}, true)
	half := new(big.Rat).Mul(r.stepAtTop(), powerOfTwo(shared-1))
	bound, ok := impl.BoundOfBlock(f, list)
	wantDyadic(t, "BoundOfBlock", []any{f, list}, bound, ok, dyadic(t, half))
}

func checkBlocksOf(t *testing.T, f impl.Format, list []int, mode int) {
	t.Helper()
	r := rulers()[f]
	arguments := []any{list, mode}
	shared := r.put(list, r.sharedPower(list), mode)
	got, ok := impl.BlockOf(f, list, mode)
	wantBlock(t, "BlockOf", f, arguments, got, ok, shared)
	greatest, ok := impl.ErrorOfBlock(f, list, mode)
	wantDyadic(t, "ErrorOfBlock", []any{f, list, mode}, greatest, ok, errorsTold(t, r.greatestError(list, shared)))
	best, ok := impl.BestPower(f, list, mode)
	wantResults(t, "BestPower", f, arguments, []int{best}, ok, []int{r.bestPower(list, mode)}, true)
	for _, power := range blockPowers {
		got, ok := impl.BlockWith(f, list, power, mode)
		wantBlock(t, "BlockWith", f, []any{list, power, mode}, got, ok, r.put(list, power, mode))
	}
}

// TestErrorsAreBounded looks at all numbers of up to 12 places, at those around the
// greatest finite value for all greater powers, and at some others.
func TestErrorsAreBounded(t *testing.T) {
	var numbers []int
	for n := range 1 << 12 {
		numbers = append(numbers, n)
	}
	for i := 12; i < 20; i++ {
		for n := 1 << i; n < min(2<<i, impl.MaxRaw); n += 1<<(i-8) - 1 {
			numbers = append(numbers, n)
		}
	}
	numbers = append(numbers, impl.MaxRaw-1, impl.MaxRaw)
	for _, f := range []impl.Format{example, smallest, largest, {Exponent: 4, Fraction: 2}, {Exponent: 2, Fraction: 10}, {Exponent: 5, Fraction: 1}} {
		for _, n := range numbers {
			for _, list := range [][]int{{n}, {-n, n / 3, n / 2}} {
				checkBound(t, f, list)
			}
		}
	}
}

func checkBound(t *testing.T, f impl.Format, list []int) {
	t.Helper()
	r := rulers()[f]
	d, ok := impl.BoundOfBlock(f, list)
	if !ok {
		t.Fatalf("BoundOfBlock of %v and %v fails", f, list)
	}
	bound := exactly(d)
	greatestValue := math.Ldexp(r.sizes[len(r.sizes)-2], r.sharedPower(list))
	if float64(greatestSize(list)) > greatestValue {
		bound.Add(bound, bound)
	}
	for _, mode := range []int{impl.ModeEven, impl.ModeAway} {
		greatest, ok := impl.ErrorOfBlock(f, list, mode)
		if !ok || exactly(greatest).Cmp(bound) > 0 {
			t.Fatalf("ErrorOfBlock of %v and %v in mode %d: got %v, %v, which should be at most %v", f, list, mode, greatest, ok, bound)
		}
	}
}

func TestValuesOfBlocks(t *testing.T) {
	for _, f := range allFormats() {
		r := rulers()[f]
		for _, b := range someBlocks(f) {
			checkValues(t, r, b)
		}
		for _, power := range []int{-40, 40} {
			for pattern := range slices.Chunk(finitePatterns(f), impl.MaxBlock) {
				checkValues(t, r, impl.Block{Power: power, Patterns: pattern})
			}
		}
	}
}

func checkValues(t *testing.T, r ruler, b impl.Block) {
	t.Helper()
	want := []impl.Dyadic{}
	for _, value := range r.exactValues(b) {
		want = append(want, dyadic(t, value))
	}
	got, ok := impl.ValuesOfBlock(r.f, b)
	wantResults(t, "ValuesOfBlock", r.f, b, flatDyadics(got), ok, flatDyadics(want), true)
}

func TestMovedBlocks(t *testing.T) {
	for _, f := range allFormats() {
		for _, b := range someBlocks(f) {
			for k := -82; k <= 82; k++ {
				got, ok := impl.MoveBlock(f, b, k)
				want := impl.Block{}
				isBlock := k >= -80 && k <= 80 && b.Power+k >= -40 && b.Power+k <= 40
				if isBlock {
					want = impl.Block{Power: b.Power + k, Patterns: b.Patterns}
				}
				wantResults(t, "MoveBlock", f, []any{b, k}, flat(got), ok, flat(want), isBlock)
			}
		}
	}
}

// TestChangedBlocks: all finite patterns of a format in ten others in ModeEven, and
// in all modes into few formats.
func TestChangedBlocks(t *testing.T) {
	for _, f := range allFormats() {
		r := rulers()[f]
		for patterns := range slices.Chunk(finitePatterns(f), impl.MaxBlock) {
			for _, g := range fewFormats() {
				checkChanged(t, r, impl.Block{Power: 7, Patterns: patterns}, g, impl.ModeEven)
			}
			for _, g := range []impl.Format{smallest, example, largest} {
				for _, mode := range modes {
					checkChanged(t, r, impl.Block{Power: -40, Patterns: patterns}, g, mode)
				}
			}
		}
		for _, b := range someBlocks(f) {
			for _, g := range fewFormats() {
				checkChanged(t, r, b, g, impl.ModeAway)
			}
		}
	}
}

func checkChanged(t *testing.T, r ruler, b impl.Block, g impl.Format, mode int) {
	t.Helper()
	want := impl.Block{Power: b.Power}
	for _, p := range b.Patterns {
		// A value of 0 has no sign: adding 0 takes that of the pattern away.
		want.Patterns = append(want.Patterns, rulers()[g].finiteFor(r.values[p]+0, mode))
	}
	got, ok := impl.ChangeBlock(r.f, b, g, mode)
	wantBlock(t, "ChangeBlock", r.f, []any{b, g, mode}, got, ok, want)
}

func TestBitsOfBlocks(t *testing.T) {
	for _, f := range allFormats() {
		for n := range impl.MaxBlock + 1 {
			got, ok := impl.BitsOfBlock(f, n)
			wantInt(t, "BitsOfBlock", f, n, got, ok, 8+n*widthOf(f))
		}
	}
}

func TestCutBlocks(t *testing.T) {
	for _, f := range allFormats() {
		for _, b := range someBlocks(f) {
			count := len(b.Patterns)
			for from := -1; from <= count+1; from++ {
				for to := -1; to <= count+1; to++ {
					got, ok := impl.CutBlock(f, b, from, to)
					want := impl.Block{}
					isPart := from >= 0 && from <= to && to <= count
					if isPart {
						want = impl.Block{Power: b.Power, Patterns: b.Patterns[from:to]}
					}
					wantResults(t, "CutBlock", f, []any{b, from, to}, flat(got), ok, flat(want), isPart)
				}
			}
		}
	}
}
