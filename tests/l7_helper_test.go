package tests

import (
	"math"
	"math/big"
	"math/rand/v2"
	"slices"
	"sync"
	"testing"

	"loop.example/g01178/impl"
)

// The following follow the document's words about blocks, with float64 values of
// the rulers, and rationals.

// topOf returns t: 2^t is the greatest power of two that is a finite value.
func (r ruler) topOf() int {
	t := math.Ilogb(r.sizes[len(r.sizes)-1])
	for !r.has(math.Ldexp(1, t)) {
		t--
	}
	return t
}

// sharedPower looks for the power among all that may be.
func (r ruler) sharedPower(list []int) int {
	m := float64(greatestSize(list))
	if m == 0 {
		return 0
	}
	s, t := -40, r.topOf()
	for m < math.Ldexp(1, s+t) || m > math.Ldexp(1, s+t+1)-1 {
		s++
	}
	return s
}

func greatestSize(list []int) int {
	m := 0
	for _, n := range list {
		m = max(m, n, -n)
	}
	return m
}

// finiteFor returns what x is rounded to, and the greatest finite value with its
// sign where that would be infinite.
func (r ruler) finiteFor(x float64, mode int) int {
	p := r.float(x, mode)
	if math.IsInf(r.values[p], 0) {
		return len(r.sizes) - 2 + signOf(x)*r.signBit()
	}
	return p
}

// put returns the block for a list.
func (r ruler) put(list []int, power, mode int) impl.Block {
	b := impl.Block{Power: power}
	for _, n := range list {
		b.Patterns = append(b.Patterns, r.finiteFor(math.Ldexp(float64(n), -power), mode))
	}
	return b
}

// exactValues returns what the patterns of a block stand for.
func (r ruler) exactValues(b impl.Block) []*big.Rat {
	var values []*big.Rat
	for _, p := range b.Patterns {
		value := new(big.Rat).SetFloat64(r.values[p])
		values = append(values, value.Mul(value, powerOfTwo(b.Power)))
	}
	return values
}

// errorPower is that of the least value by the least power that is tried for a raw
// list, so that all errors are whole numbers of 2^errorPower.
const errorPower = -41

// greatestError returns that of the values of a block less a list, in 2^errorPower.
func (r ruler) greatestError(list []int, b impl.Block) int {
	greatest := 0
	for i, p := range b.Patterns {
		off := int(math.Ldexp(r.values[p], b.Power-errorPower)) - list[i]<<-errorPower
		greatest = max(greatest, off, -off)
	}
	return greatest
}

// errorsTold returns a number of 2^errorPower.
func errorsTold(t *testing.T, n int) impl.Dyadic {
	t.Helper()
	return dyadic(t, new(big.Rat).Mul(big.NewRat(int64(n), 1), powerOfTwo(errorPower)))
}

// stepAtTop returns how far the values at 2^t are apart.
func (r ruler) stepAtTop() *big.Rat {
	top := math.Ldexp(1, r.topOf())
	at := slices.Index(r.sizes, top)
	return new(big.Rat).SetFloat64(r.sizes[at+1] - top)
}

// dot returns the sum of the products, and false if one of the sums on the way is
// no dyadic number.
func (r ruler) dot(a, b impl.Block) (impl.Dyadic, bool) {
	sum := new(big.Rat)
	first, second := r.exactValues(a), r.exactValues(b)
	for i := range first {
		sum.Add(sum, first[i].Mul(first[i], second[i]))
		if _, ok := dyadicFor(sum); !ok {
			return impl.Dyadic{}, false
		}
	}
	return dyadicFor(sum)
}

// bestPower tries the five powers from the least one on.
func (r ruler) bestPower(list []int, mode int) int {
	shared := r.sharedPower(list)
	best, least := 0, math.MaxInt
	for power := shared - 2; power <= shared+2; power++ {
		greatest := r.greatestError(list, r.put(list, power, mode))
		if greatest < least {
			best, least = power, greatest
		}
	}
	return best
}

// someRaws are raw lists of all lengths, the same ones each time: with small
// and great numbers, with zeros, and with those beside powers of two.
var someRaws = sync.OnceValue(func() [][]int {
	random := rand.New(rand.NewPCG(7, 16))
	lists := [][]int{
		{0}, {0, 0}, slices.Repeat([]int{0}, impl.MaxBlock),
		{impl.MaxRaw}, {-impl.MaxRaw}, {impl.MaxRaw - 1}, {1 - impl.MaxRaw},
		{impl.MaxRaw, -impl.MaxRaw, 1, -1, 0}, slices.Repeat([]int{-impl.MaxRaw, impl.MaxRaw}, 8),
		{1000, 3}, {0, 0, 1}, {-3, 0, 0},
	}
	for i := range 20 {
		n := 1 << i
		lists = append(lists, []int{n}, []int{-n}, []int{n - 1}, []int{min(n+1, impl.MaxRaw), 1 - n}, []int{n + n/2, 1}, []int{n - n/16, -3, 17})
	}
	for length := range impl.MaxBlock {
		for _, below := range []int{2, 20, 300, 5000, 70000, impl.MaxRaw + 1} {
			list := []int{}
			for range length + 1 {
				// Many numbers far below the greatest one.
				n := random.IntN(below) >> random.IntN(8)
				list = append(list, n*(1-2*random.IntN(2)))
			}
			lists = append(lists, list)
		}
	}
	return lists
})

// blockPowers are those at which tests of blocks look.
var blockPowers = []int{-40, -39, -17, -3, 0, 1, 5, 16, 39, 40}

// someBlocks returns blocks of all numbers of patterns, the same ones each time,
// with zeros of both signs among them.
func someBlocks(f impl.Format) []impl.Block {
	random := rand.New(rand.NewPCG(uint64(f.Exponent), uint64(100+f.Fraction)))
	patterns := finitePatterns(f)
	var blocks []impl.Block
	for length := range impl.MaxBlock + 1 {
		for _, power := range blockPowers {
			b := impl.Block{Power: power}
			for range length {
				b.Patterns = append(b.Patterns, patterns[random.IntN(len(patterns))])
			}
			if length > 2 {
				b.Patterns[length/2], b.Patterns[length-1] = 0, len(rulers()[f].values)/2
			}
			blocks = append(blocks, b)
		}
	}
	return blocks
}

// flat puts all of a block into a list: its power, the number of its patterns, and
// these.
func flat(b impl.Block) []int {
	return append([]int{b.Power, len(b.Patterns)}, b.Patterns...)
}

func flatDyadics(list []impl.Dyadic) []int {
	flattened := []int{len(list)}
	for _, d := range list {
		flattened = append(flattened, d.Num, d.Exp)
	}
	return flattened
}

func wantBlock(t *testing.T, what string, f impl.Format, arguments any, got impl.Block, ok bool, want impl.Block) {
	t.Helper()
	wantResults(t, what, f, arguments, flat(got), ok, flat(want), true)
}

// blockArguments has all that a function of chapter 7 may take beside a format:
// each one takes what it has use for.
type blockArguments struct {
	list                        []int
	a, b                        impl.Block
	g                           impl.Format
	power, mode, k, n, from, to int
}

// blockCalls are all functions of chapter 7. What they take is told in words: list,
// block for the first one, blocks for both, anything for what need be no block, and
// the names of the other arguments. They return their results but the last one in a
// list.
var blockCalls = []struct {
	what  string
	takes string
	call  func(f impl.Format, x blockArguments) ([]int, bool)
}{
	{"IsBlock", "anything", func(f impl.Format, x blockArguments) ([]int, bool) {
		is, ok := impl.IsBlock(f, x.a)
		return results(ok, oneIf(is))
	}},
	{"SharedPower", "list", func(f impl.Format, x blockArguments) ([]int, bool) {
		s, ok := impl.SharedPower(f, x.list)
		return results(ok, s)
	}},
	{"BlockOf", "list mode", func(f impl.Format, x blockArguments) ([]int, bool) {
		b, ok := impl.BlockOf(f, x.list, x.mode)
		return results(ok, flat(b)...)
	}},
	{"BlockWith", "list power mode", func(f impl.Format, x blockArguments) ([]int, bool) {
		b, ok := impl.BlockWith(f, x.list, x.power, x.mode)
		return results(ok, flat(b)...)
	}},
	{"ValuesOfBlock", "block", func(f impl.Format, x blockArguments) ([]int, bool) {
		values, ok := impl.ValuesOfBlock(f, x.a)
		return results(ok, flatDyadics(values)...)
	}},
	{"ErrorOfBlock", "list mode", func(f impl.Format, x blockArguments) ([]int, bool) {
		d, ok := impl.ErrorOfBlock(f, x.list, x.mode)
		return results(ok, d.Num, d.Exp)
	}},
	{"BoundOfBlock", "list", func(f impl.Format, x blockArguments) ([]int, bool) {
		d, ok := impl.BoundOfBlock(f, x.list)
		return results(ok, d.Num, d.Exp)
	}},
	{"DotBlocks", "blocks", func(f impl.Format, x blockArguments) ([]int, bool) {
		d, ok := impl.DotBlocks(f, x.a, x.b)
		return results(ok, d.Num, d.Exp)
	}},
	{"MoveBlock", "block k", func(f impl.Format, x blockArguments) ([]int, bool) {
		b, ok := impl.MoveBlock(f, x.a, x.k)
		return results(ok, flat(b)...)
	}},
	{"ChangeBlock", "block g mode", func(f impl.Format, x blockArguments) ([]int, bool) {
		b, ok := impl.ChangeBlock(f, x.a, x.g, x.mode)
		return results(ok, flat(b)...)
	}},
	{"BestPower", "list mode", func(f impl.Format, x blockArguments) ([]int, bool) {
		s, ok := impl.BestPower(f, x.list, x.mode)
		return results(ok, s)
	}},
	{"BitsOfBlock", "n", func(f impl.Format, x blockArguments) ([]int, bool) {
		n, ok := impl.BitsOfBlock(f, x.n)
		return results(ok, n)
	}},
	{"CutBlock", "block from to", func(f impl.Format, x blockArguments) ([]int, bool) {
		b, ok := impl.CutBlock(f, x.a, x.from, x.to)
		return results(ok, flat(b)...)
	}},
}

// blockCall returns a function of blockCalls.
func blockCall(t *testing.T, name string) func(impl.Format, blockArguments) ([]int, bool) {
	t.Helper()
	for _, c := range blockCalls {
		if c.what == name {
			return c.call
		}
	}
	t.Fatal("there is no", name)
	return nil
}

// plainBlock are arguments that all functions take, in all formats.
func plainBlock() blockArguments {
	return blockArguments{
		list: []int{1, -2, 3},
		a:    impl.Block{Power: 3, Patterns: []int{1, 0, 1}},
		b:    impl.Block{Power: -1, Patterns: []int{0, 1, 1}},
		g:    smallest,
		from: 1,
		to:   2,
		n:    3,
	}
}
