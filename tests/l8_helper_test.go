package tests

import (
	"math"
	"math/big"
	"math/rand/v2"
	"slices"
	"sort"
	"testing"

	"loop.example/g01178/impl"
)

// toldFork is what the document tells of rounding a number by bits: the patterns
// that it may become, c, and 2^bits.
type toldFork struct {
	lower, upper int
	c, all       int
}

// fork fails for sizes greater than the greatest finite value. A float64 has room
// for all that is met here: dyadic numbers, and what is less of them than a value
// below.
func (r ruler) fork(x float64, bits int) (toldFork, bool) {
	all := int(math.Pow(2, float64(bits)))
	if r.has(x) {
		return toldFork{r.pattern(x), r.pattern(x), 0, all}, true
	}
	size := math.Abs(x)
	above := sort.SearchFloat64s(r.sizes, size)
	if above > len(r.sizes)-2 {
		return toldFork{}, false
	}
	part := (size - r.sizes[above-1]) / (r.sizes[above] - r.sizes[above-1])
	sign := signOf(x) * r.signBit()
	return toldFork{above - 1 + sign, above + sign, int(math.Floor(part * float64(all))), all}, true
}

func (x toldFork) taken(choice int) int {
	if x.c+choice >= x.all {
		return x.upper
	}
	return x.lower
}

// mean is that of the values for all r.
func (r ruler) mean(x toldFork) float64 {
	sum := r.values[x.lower]*float64(x.all-x.c) + r.values[x.upper]*float64(x.c)
	return sum / float64(x.all)
}

// spread fails as the document tells, with the chance of a pattern as the number
// of all r that lead to it.
func (r ruler) spread(d impl.Dyadic, x toldFork) (impl.Dyadic, bool) {
	sum := new(big.Rat)
	for _, end := range []struct{ p, chance int }{{x.lower, x.all - x.c}, {x.upper, x.c}} {
		part := new(big.Rat).SetFloat64(r.values[end.p])
		part.Sub(part, exactly(d))
		_, hasDistance := dyadicFor(part)
		part.Mul(part, part)
		_, hasSquare := dyadicFor(part)
		part.Mul(part, big.NewRat(int64(end.chance), 1))
		_, hasTimes := dyadicFor(part)
		if !hasDistance || !hasSquare || !hasTimes {
			return impl.Dyadic{}, false
		}
		sum.Add(sum, part)
	}
	return dyadicFor(sum.Mul(sum, big.NewRat(1, int64(x.all))))
}

// fairBits returns the least number of bits for which the mean is the number.
func (r ruler) fairBits(x float64) (int, bool) {
	for bits := range impl.MaxBits + 1 {
		if fork, ok := r.fork(x, bits); ok && r.mean(fork) == x {
			return bits, true
		}
	}
	return 0, false
}

func doubleOf(d impl.Dyadic) float64 {
	return math.Ldexp(float64(d.Num), d.Exp)
}

func negated(d impl.Dyadic) impl.Dyadic {
	return impl.Dyadic{Num: -d.Num, Exp: d.Exp}
}

// partsOfSteps are at, just below and just above whole numbers of 4096ths, and what
// is in the middle of two of these.
func partsOfSteps() []float64 {
	little := math.Ldexp(1, -25)
	parts := []float64{0, little, 1 - little, math.Ldexp(1, -13), math.Ldexp(3, -13), 1 - math.Ldexp(1, -13), math.Ldexp(0x1555555, -26)}
	for _, n := range []float64{1, 2, 3, 1024, 1365, 2047, 2048, 2049, 3072, 4094, 4095} {
		parts = append(parts, n/4096-little, n/4096, n/4096+little)
	}
	return parts
}

// farNumbers are far below all units, and up to just below and just above the
// greatest finite value.
func (r ruler) farNumbers(t *testing.T) []impl.Dyadic {
	t.Helper()
	last := r.sizes[len(r.sizes)-2]
	little := last * math.Ldexp(1, -30)
	return []impl.Dyadic{
		{Num: 1, Exp: -100}, {Num: impl.MaxNum - 1, Exp: -100}, {Num: 1<<49 + 1, Exp: -99}, {Num: 3, Exp: -60}, {Num: 0x155555555, Exp: -58},
		dyadicOf(t, last-little), dyadicOf(t, last),
	}
}

// greatNumbers are greater than the greatest finite value.
func (r ruler) greatNumbers(t *testing.T) []impl.Dyadic {
	t.Helper()
	last, top := r.sizes[len(r.sizes)-2], r.sizes[len(r.sizes)-1]
	little := last * math.Ldexp(1, -30)
	list := []impl.Dyadic{
		dyadicOf(t, last+little), dyadicOf(t, (last+top)/2), dyadicOf(t, top-little), dyadicOf(t, top), dyadicOf(t, 2*top),
		{Num: 1, Exp: 17}, {Num: 7, Exp: 40}, {Num: 1, Exp: 100}, {Num: impl.MaxNum - 1, Exp: 100}, {Num: impl.MaxNum - 1, Exp: 0},
	}
	for _, d := range slices.Clone(list) {
		list = append(list, negated(d))
	}
	return list
}

// numbersToRound are of both signs, with 0 and no sizes greater than the greatest
// finite value: at and between values around each change of the exponent field, and
// far numbers.
func (r ruler) numbersToRound(t *testing.T) []impl.Dyadic {
	t.Helper()
	list := r.farNumbers(t)
	last := len(r.sizes) - 2
	for _, p := range somePatterns(r.f) {
		if p >= last {
			continue
		}
		for _, part := range partsOfSteps() {
			list = append(list, dyadicOf(t, r.sizes[p]+part*(r.sizes[p+1]-r.sizes[p])))
		}
	}
	for _, d := range slices.Clone(list) {
		list = append(list, negated(d))
	}
	return list
}

// choicesFor are the r at which tests look: the ends, those around the first one that
// leads to the upper pattern, and one in the middle.
func choicesFor(x toldFork) []int {
	list := []int{0, x.all - 1, x.all - x.c - 1, x.all - x.c, x.all - x.c + 1, x.all / 2}
	return slices.DeleteFunc(list, func(choice int) bool { return choice < 0 || choice >= x.all })
}

// steps goes on from a pattern, with one sum after another rounded by bits. It fails
// if one is greater in size than the greatest finite value.
func (r ruler) steps(start, add, bits int, choices []int) (int, bool) {
	p := start
	for _, choice := range choices {
		fork, ok := r.fork(r.values[p]+r.values[add], bits)
		if !ok {
			return 0, false
		}
		p = fork.taken(choice)
	}
	return p, true
}

// evenPath returns the patterns from start on, with ModeEven, and whether the last one
// comes again at once. It ends, too, where a sum would be infinite, and behind 1000
// steps.
func (r ruler) evenPath(start, add int) ([]int, bool) {
	path := []int{start}
	sums := summerOf(r)
	for {
		last := path[len(path)-1]
		next := r.pattern(sums.near(r.values[last], r.values[add]))
		if !sums.fits || next == last || len(path) > 1000 {
			return path, sums.fits && next == last
		}
		path = append(path, next)
	}
}

// startsAndAdds are pairs of finite patterns, the same ones each time: far from each
// other and near, with sums that are values, sums that are not, and sums that are
// greater than all values on the way; zeros of both signs; and some for which sums on
// both sides of 0 come.
func (r ruler) startsAndAdds() [][2]int {
	random := rand.New(rand.NewPCG(8, uint64(16*r.f.Exponent+r.f.Fraction)))
	half, last := r.signBit(), len(r.sizes)-2
	pairs := [][2]int{
		{0, 0}, {half, 0}, {0, half}, {half, half}, {0, 1}, {half, 1 + half}, {1, half}, {half, last}, {last, 0},
		{last, 1}, {last, last}, {last + half, 1 + half}, {last, last + half}, {1, 1 + half}, {1 + half, 1}, {last + half, last - 1<<r.f.Fraction},
		{last + half, max(last-7<<r.f.Fraction/2, 1)}, {last, max(last-7<<r.f.Fraction/2-1, 1) + half},
	}
	for i := range 40 {
		start := random.IntN(last + 1)
		apart := random.IntN(min(last, 5<<r.f.Fraction))
		pair := [2]int{start, max(start-apart, 0) + half*random.IntN(2)}
		if i%2 == 1 {
			pair[0] = last - random.IntN(min(last, 2<<r.f.Fraction))
			pair[1] = max(pair[0]-apart, 0) + half
		}
		if i%4 > 1 {
			pair[0], pair[1] = pair[0]^half, pair[1]^half
		}
		pairs = append(pairs, pair)
	}
	return pairs
}

// randomArguments has all that a function of chapter 8 may take beside a format: each
// one takes what it has use for.
type randomArguments struct {
	d                 impl.Dyadic
	bits, r           int
	start, add, steps int
	choices           []int
}

// randomCalls are all functions of chapter 8, with what they take beside a format. They
// return their results but the last one in a list.
var randomCalls = []struct {
	what  string
	takes string
	call  func(f impl.Format, x randomArguments) ([]int, bool)
}{
	{"RandomRound", "d bits r", func(f impl.Format, x randomArguments) ([]int, bool) {
		p, ok := impl.RandomRound(f, x.d, x.bits, x.r)
		return results(ok, p)
	}},
	{"ChanceUp", "d bits", func(f impl.Format, x randomArguments) ([]int, bool) {
		c, ok := impl.ChanceUp(f, x.d, x.bits)
		return results(ok, c)
	}},
	{"MeanOfRound", "d bits", func(f impl.Format, x randomArguments) ([]int, bool) {
		mean, ok := impl.MeanOfRound(f, x.d, x.bits)
		return results(ok, mean.Num, mean.Exp)
	}},
	{"BitsToBeFair", "d", func(f impl.Format, x randomArguments) ([]int, bool) {
		bits, ok := impl.BitsToBeFair(f, x.d)
		return results(ok, bits)
	}},
	{"RandomSum", "start add bits choices", func(f impl.Format, x randomArguments) ([]int, bool) {
		p, ok := impl.RandomSum(f, x.start, x.add, x.bits, x.choices)
		return results(ok, p)
	}},
	{"EvenSum", "start add steps", func(f impl.Format, x randomArguments) ([]int, bool) {
		p, ok := impl.EvenSum(f, x.start, x.add, x.steps)
		return results(ok, p)
	}},
	{"StallsAt", "start add", func(f impl.Format, x randomArguments) ([]int, bool) {
		p, steps, ok := impl.StallsAt(f, x.start, x.add)
		return results(ok, p, steps)
	}},
	{"OutcomesOf", "start add bits steps", func(f impl.Format, x randomArguments) ([]int, bool) {
		patterns, counts, ok := impl.OutcomesOf(f, x.start, x.add, x.bits, x.steps)
		return results(ok, slices.Concat(patterns, counts)...)
	}},
	{"MeanOfSum", "start add bits steps", func(f impl.Format, x randomArguments) ([]int, bool) {
		mean, ok := impl.MeanOfSum(f, x.start, x.add, x.bits, x.steps)
		return results(ok, mean.Num, mean.Exp)
	}},
	{"SpreadOfRound", "d bits", func(f impl.Format, x randomArguments) ([]int, bool) {
		spread, ok := impl.SpreadOfRound(f, x.d, x.bits)
		return results(ok, spread.Num, spread.Exp)
	}},
}

// randomCall returns a function of randomCalls.
func randomCall(t *testing.T, name string) func(impl.Format, randomArguments) ([]int, bool) {
	t.Helper()
	for _, c := range randomCalls {
		if c.what == name {
			return c.call
		}
	}
	t.Fatal("there is no", name)
	return nil
}

// plainRandom are arguments that all functions take, in all formats.
func plainRandom() randomArguments {
	return randomArguments{
		d:       impl.Dyadic{Num: 5, Exp: -2},
		bits:    1,
		r:       1,
		start:   1,
		add:     0,
		steps:   2,
		choices: []int{0, 1},
	}
}
