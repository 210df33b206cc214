package tests

import (
	"math"
	"math/big"
	"slices"
	"sort"
	"testing"

	"loop.example/g01178/impl"
)

var modes = []int{impl.ModeEven, impl.ModeAway, impl.ModeZero, impl.ModeUp, impl.ModeDown, impl.ModeOdd}

func notModes() []int {
	return []int{-1, 6, 7, 64, -64, 256, math.MinInt, math.MaxInt}
}

func notDyadics() []impl.Dyadic {
	return []impl.Dyadic{
		{Num: 0, Exp: 1},
		{Num: 0, Exp: -1},
		{Num: 0, Exp: 100},
		{Num: 0, Exp: math.MinInt},
		{Num: 2, Exp: 0},
		{Num: -2, Exp: 0},
		{Num: 10, Exp: -3},
		{Num: impl.MaxNum, Exp: 0},
		{Num: -impl.MaxNum, Exp: 0},
		{Num: impl.MaxNum + 1, Exp: 0},
		{Num: -impl.MaxNum - 1, Exp: 0},
		{Num: 1<<62 + 1, Exp: -60},
		{Num: math.MaxInt, Exp: 0},
		{Num: math.MinInt, Exp: 0},
		{Num: math.MinInt + 1, Exp: 0},
		{Num: 1, Exp: 101},
		{Num: 1, Exp: -101},
		{Num: -1, Exp: 101},
		{Num: -1, Exp: -101},
		{Num: 1, Exp: math.MaxInt},
		{Num: 1, Exp: math.MinInt},
		{Num: math.MaxInt, Exp: math.MaxInt},
		{Num: math.MinInt, Exp: math.MinInt},
	}
}

// someDyadics are numbers at and near the bounds, and some in between.
func someDyadics() []impl.Dyadic {
	list := []impl.Dyadic{{}}
	for _, num := range []int{1, 3, 5, 17, 255, 1<<24 - 1, 1<<24 + 1, 1<<25 - 1, 1<<49 + 1, 1<<49 - 1, impl.MaxNum - 1} {
		for _, exp := range []int{-100, -99, -75, -51, -50, -49, -25, -9, -1, 0, 1, 3, 24, 49, 50, 51, 74, 99, 100} {
			list = append(list, impl.Dyadic{Num: num, Exp: exp}, impl.Dyadic{Num: -num, Exp: exp})
		}
	}
	return list
}

func powerOfTwo(exp int) *big.Rat {
	power := new(big.Rat).SetInt(new(big.Int).Lsh(big.NewInt(1), uint(max(exp, -exp))))
	if exp < 0 {
		power.Inv(power)
	}
	return power
}

func exactly(d impl.Dyadic) *big.Rat {
	n := new(big.Rat).SetInt64(int64(d.Num))
	return n.Mul(n, powerOfTwo(d.Exp))
}

// dyadicFor returns the dyadic number that is r, and whether there is one.
func dyadicFor(r *big.Rat) (impl.Dyadic, bool) {
	if r.Sign() == 0 {
		return impl.Dyadic{}, true
	}
	num, den := new(big.Int).Set(r.Num()), new(big.Int).Set(r.Denom())
	exp := 0
	for ; num.Bit(0) == 0; exp++ {
		num.Rsh(num, 1)
	}
	for ; den.Bit(0) == 0; exp-- {
		den.Rsh(den, 1)
	}
	isSmall := new(big.Int).Abs(num).Cmp(big.NewInt(impl.MaxNum)) <= 0
	if !isSmall || den.Cmp(big.NewInt(1)) != 0 || exp < -impl.MaxPower || exp > impl.MaxPower {
		return impl.Dyadic{}, false
	}
	return impl.Dyadic{Num: int(num.Int64()), Exp: exp}, true
}

// dyadic is for numbers that the test knows to be dyadic.
func dyadic(t *testing.T, r *big.Rat) impl.Dyadic {
	t.Helper()
	d, ok := dyadicFor(r)
	if !ok {
		t.Fatalf("%v is not dyadic", r)
	}
	return d
}

// scale has the sizes of the patterns of a format from 0 to the greatest one,
// and what counts as the value behind that one.
type scale struct {
	f     impl.Format
	sizes []*big.Rat
	top   *big.Rat
}

func scaleOf(f impl.Format) scale {
	s := scale{f: f}
	for _, p := range allPatterns(f) {
		if x := tell(f, p); x.kind < 3 && x.sign == 0 {
			s.sizes = append(s.sizes, new(big.Rat).SetFloat64(x.size))
		}
	}
	n := len(s.sizes)
	step := new(big.Rat).Sub(s.sizes[n-1], s.sizes[n-2])
	s.top = new(big.Rat).Add(s.sizes[n-1], step)
	return s
}

// below returns the pattern with the greatest value of at most a size, and
// whether that is the size.
func (s scale) below(size *big.Rat) (int, bool) {
	above := sort.Search(len(s.sizes), func(i int) bool { return s.sizes[i].Cmp(size) > 0 })
	return above - 1, s.sizes[above-1].Cmp(size) == 0
}

// behind returns the value that counts for the pattern behind p.
func (s scale) behind(p int) *big.Rat {
	if p+1 < len(s.sizes) {
		return s.sizes[p+1]
	}
	return s.top
}

// round follows the document's words about rounding.
func (s scale) round(r *big.Rat, mode int) int {
	size := new(big.Rat).Abs(r)
	sign := 0
	if r.Sign() < 0 {
		sign = 1 << (widthOf(s.f) - 1)
	}
	lower, isValue := s.below(size)
	if isValue {
		return sign + lower
	}
	toLower := new(big.Rat).Sub(size, s.sizes[lower])
	toUpper := new(big.Rat).Sub(s.behind(lower), size)
	isUpper := map[int]bool{
		impl.ModeEven: toUpper.Cmp(toLower) < 0 || toUpper.Cmp(toLower) == 0 && lower%2 == 1,
		impl.ModeAway: toUpper.Cmp(toLower) <= 0,
		impl.ModeZero: false,
		impl.ModeUp:   r.Sign() > 0,
		impl.ModeDown: r.Sign() < 0,
		impl.ModeOdd:  lower%2 == 0,
	}
	if isUpper[mode] {
		lower++
	}
	return sign + lower
}

// value returns the value of a finite pattern.
func (s scale) value(p int) *big.Rat {
	x := tell(s.f, p)
	value := new(big.Rat).SetFloat64(x.size)
	if x.sign == 1 {
		value.Neg(value)
	}
	return value
}

// between returns dyadic numbers at and around the pattern p with the sign 0
// and the next one: the value, the middle, and what is a little off these.
func (s scale) between(t *testing.T, p int) []impl.Dyadic {
	t.Helper()
	step := new(big.Rat).Sub(s.behind(p), s.sizes[p])
	var list []impl.Dyadic
	for _, part := range []*big.Rat{
		new(big.Rat), powerOfTwo(-20), big.NewRat(1, 8), big.NewRat(3, 8),
		new(big.Rat).Sub(big.NewRat(1, 2), powerOfTwo(-20)), big.NewRat(1, 2), new(big.Rat).Add(big.NewRat(1, 2), powerOfTwo(-20)),
		big.NewRat(7, 8), new(big.Rat).Sub(big.NewRat(1, 1), powerOfTwo(-20)),
	} {
		part.Mul(part, step)
		list = append(list, dyadic(t, part.Add(part, s.sizes[p])))
	}
	return list
}

// spots are patterns with the sign 0 at which tests of wide formats look: those
// around each change of the exponent field, and some others.
func (s scale) spots() []int {
	last := len(s.sizes) - 1
	list := []int{0, 1, 2, 3, last - 1, last, last / 2, last / 3}
	for p := 1 << s.f.Fraction; p <= last; p += 1 << s.f.Fraction {
		list = append(list, p-2, p-1, p, p+1)
	}
	if last < 300 {
		list = allPatterns(s.f)[:last+1]
	}
	list = slices.DeleteFunc(list, func(p int) bool { return p < 0 || p > last })
	slices.Sort(list)
	return slices.Compact(list)
}

// numbers returns both signs of what is between all spots, beyond the greatest
// value and below the unit, and 0.
func (s scale) numbers(t *testing.T) []impl.Dyadic {
	t.Helper()
	var list []impl.Dyadic
	for _, p := range s.spots() {
		list = append(list, s.between(t, p)...)
	}
	list = append(list, dyadic(t, s.top),
		impl.Dyadic{Num: 1, Exp: -100}, impl.Dyadic{Num: impl.MaxNum - 1, Exp: -100}, impl.Dyadic{Num: 3, Exp: -60},
		impl.Dyadic{Num: 1, Exp: 17}, impl.Dyadic{Num: 7, Exp: 40}, impl.Dyadic{Num: 1, Exp: 100}, impl.Dyadic{Num: impl.MaxNum - 1, Exp: 100})
	for _, d := range slices.Clone(list) {
		list = append(list, impl.Dyadic{Num: -d.Num, Exp: d.Exp})
	}
	return list
}
