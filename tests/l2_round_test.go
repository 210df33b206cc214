package tests

import (
	"math"
	"math/big"
	"slices"
	"strings"
	"testing"

	"loop.example/g01178/impl"
)

func wantDyadic(t *testing.T, what string, argument any, got impl.Dyadic, ok bool, want impl.Dyadic) {
	t.Helper()
	if !ok || got != want {
		t.Fatalf("%s of %v: got %v, %v, want %v", what, argument, got, ok, want)
	}
}

func wantNoDyadic(t *testing.T, what string, argument any, got impl.Dyadic, ok bool) {
	t.Helper()
	if ok || got != (impl.Dyadic{}) {
		t.Fatalf("%s of %v: got %v, %v, want a failure", what, argument, got, ok)
	}
}

// wantDyadicIf wants r, or a failure if that is no dyadic number.
func wantDyadicIf(t *testing.T, what string, argument any, got impl.Dyadic, ok bool, r *big.Rat) {
	t.Helper()
	want, is := dyadicFor(r)
	if !is {
		wantNoDyadic(t, what, argument, got, ok)
		return
	}
	wantDyadic(t, what, argument, got, ok, want)
}

func TestRoundExample(t *testing.T) {
	for _, c := range []struct {
		d          impl.Dyadic
		mode, want int
	}{
		{impl.Dyadic{Num: 17}, impl.ModeEven, 88},
		{impl.Dyadic{Num: 17}, impl.ModeAway, 89},
		{impl.Dyadic{Num: 17}, impl.ModeUp, 89},
		{impl.Dyadic{Num: 17}, impl.ModeOdd, 89},
		{impl.Dyadic{Num: 17}, impl.ModeZero, 88},
		{impl.Dyadic{Num: 17}, impl.ModeDown, 88},
		{impl.Dyadic{Num: 31, Exp: 3}, impl.ModeEven, 120},
		{impl.Dyadic{Num: 247}, impl.ModeEven, 119},
		{impl.Dyadic{Num: 31, Exp: 3}, impl.ModeOdd, 119},
		{impl.Dyadic{Num: -31, Exp: 3}, impl.ModeEven, 248},
	} {
		got, ok := impl.RoundDyadic(example, c.d, c.mode)
		wantInt(t, "RoundDyadic", example, c.d.Num, got, ok, c.want)
	}
	third, ok := impl.RoundFraction(example, 1, 3, impl.ModeEven)
	value, fine := impl.ValueOf(example, third)
	wantDyadic(t, "RoundFraction", "1 / 3", value, ok && fine, impl.Dyadic{Num: 11, Exp: -5})
}

func TestIsDyadic(t *testing.T) {
	for _, d := range someDyadics() {
		if !impl.IsDyadic(d) {
			t.Errorf("IsDyadic of %v: got false", d)
		}
	}
	for _, d := range notDyadics() {
		if impl.IsDyadic(d) {
			t.Errorf("IsDyadic of %v: got true", d)
		}
	}
}

func TestDyadicOf(t *testing.T) {
	nums := []int{0, 1, 2, 3, 4, 6, 17, 96, 1 << 20, 1<<49 + 1, 1<<50 - 1, 1<<50 - 2, impl.MaxNum}
	for _, n := range nums {
		for exp := -impl.MaxPower; exp <= impl.MaxPower; exp++ {
			for _, num := range []int{n, -n} {
				got, ok := impl.DyadicOf(num, exp)
				wantDyadicIf(t, "DyadicOf", [2]int{num, exp}, got, ok, exactly(impl.Dyadic{Num: num, Exp: exp}))
			}
		}
	}
}

func TestDyadicOfEnds(t *testing.T) {
	for _, c := range []struct {
		num, exp int
		want     impl.Dyadic
	}{
		{0, 100, impl.Dyadic{}},
		{0, -100, impl.Dyadic{}},
		{1, 100, impl.Dyadic{Num: 1, Exp: 100}},
		{-1, -100, impl.Dyadic{Num: -1, Exp: -100}},
		{4, 98, impl.Dyadic{Num: 1, Exp: 100}},
		{-12, 0, impl.Dyadic{Num: -3, Exp: 2}},
		{impl.MaxNum, 50, impl.Dyadic{Num: 1, Exp: 100}},
		{-impl.MaxNum, -100, impl.Dyadic{Num: -1, Exp: -50}},
		{impl.MaxNum - 1, -100, impl.Dyadic{Num: impl.MaxNum - 1, Exp: -100}},
	} {
		got, ok := impl.DyadicOf(c.num, c.exp)
		wantDyadic(t, "DyadicOf", [2]int{c.num, c.exp}, got, ok, c.want)
	}
	for _, c := range [][2]int{
		{2, 100}, {-2, 100}, {impl.MaxNum, 51}, {4, 99},
		{impl.MaxNum + 1, 0}, {-impl.MaxNum - 1, 0}, {2 * impl.MaxNum, 0}, {1 << 62, -62}, {math.MinInt, 0}, {math.MaxInt, 0},
		{1, 101}, {2, -101}, {1, -101}, {0, 101}, {0, -101}, {0, math.MinInt}, {0, math.MaxInt}, {math.MinInt, math.MinInt},
	} {
		got, ok := impl.DyadicOf(c[0], c[1])
		wantNoDyadic(t, "DyadicOf", c, got, ok)
	}
}

func TestValueOfAndUnitOf(t *testing.T) {
	for _, f := range allFormats() {
		unit, ok := impl.UnitOf(f)
		wantDyadic(t, "UnitOf", f, unit, ok, dyadic(t, new(big.Rat).SetFloat64(sizeOf(f, 0, 1))))
		for _, p := range allPatterns(f) {
			x := tell(f, p)
			got, ok := impl.ValueOf(f, p)
			if x.kind >= 3 {
				wantNoDyadic(t, "ValueOf", p, got, ok)
				continue
			}
			wantDyadic(t, "ValueOf", p, got, ok, dyadic(t, new(big.Rat).SetFloat64(x.order())))
			for _, mode := range modes {
				want := p
				if x.kind == 0 {
					want = 0
				}
				back, ok := impl.RoundDyadic(f, got, mode)
				wantInt(t, "RoundDyadic of the value", f, p, back, ok, want)
			}
		}
	}
}

func TestSumsAndProducts(t *testing.T) {
	list := someDyadics()
	for _, a := range list {
		x := exactly(a)
		negated, ok := impl.NegateDyadic(a)
		wantDyadicIf(t, "NegateDyadic", a, negated, ok, new(big.Rat).Neg(x))
		for _, b := range list {
			y := exactly(b)
			both := [2]impl.Dyadic{a, b}
			got, ok := impl.PlusDyadic(a, b)
			wantDyadicIf(t, "PlusDyadic", both, got, ok, new(big.Rat).Add(x, y))
			got, ok = impl.TimesDyadic(a, b)
			wantDyadicIf(t, "TimesDyadic", both, got, ok, new(big.Rat).Mul(x, y))
			order, ok := impl.CompareDyadic(a, b)
			if !ok || order != x.Cmp(y) {
				t.Fatalf("CompareDyadic of %v: got %d, %v", both, order, ok)
			}
		}
	}
}

// TestSumsOfAllDistances moves one number along the other one, so that sums get
// as many places as there may be, and one more.
func TestSumsOfAllDistances(t *testing.T) {
	for _, num := range []int{1, 3, 1<<25 - 1, 1<<49 + 1, impl.MaxNum - 1} {
		for exp := -impl.MaxPower; exp <= impl.MaxPower; exp++ {
			a := impl.Dyadic{Num: num, Exp: exp}
			for _, b := range []impl.Dyadic{
				{Num: 1}, {Num: -1}, {Num: impl.MaxNum - 1, Exp: -20}, {Num: 1 - impl.MaxNum}, {Num: -(1<<49 + 1), Exp: 10},
			} {
				got, ok := impl.PlusDyadic(a, b)
				wantDyadicIf(t, "PlusDyadic", [2]impl.Dyadic{a, b}, got, ok, new(big.Rat).Add(exactly(a), exactly(b)))
				order, ok := impl.CompareDyadic(a, b)
				if !ok || order != exactly(a).Cmp(exactly(b)) {
					t.Fatalf("CompareDyadic of %v and %v: got %d, %v", a, b, order, ok)
				}
			}
		}
	}
}

func TestSumEnds(t *testing.T) {
	half := impl.Dyadic{Num: 1, Exp: -1}
	for _, c := range []struct{ a, b, want impl.Dyadic }{
		{half, half, impl.Dyadic{Num: 1}},
		{half, impl.Dyadic{Num: -1, Exp: -1}, impl.Dyadic{}},
		{impl.Dyadic{}, impl.Dyadic{Num: 1, Exp: 100}, impl.Dyadic{Num: 1, Exp: 100}},
		{impl.Dyadic{Num: 1, Exp: 49}, impl.Dyadic{Num: 1}, impl.Dyadic{Num: 1<<49 + 1}},
		{impl.Dyadic{Num: 1, Exp: 50}, impl.Dyadic{Num: -1}, impl.Dyadic{Num: 1<<50 - 1}},
		{impl.Dyadic{Num: impl.MaxNum - 1}, impl.Dyadic{Num: 1}, impl.Dyadic{Num: 1, Exp: 50}},
	} {
		got, ok := impl.PlusDyadic(c.a, c.b)
		wantDyadic(t, "PlusDyadic", c.a, got, ok, c.want)
		got, ok = impl.PlusDyadic(c.b, c.a)
		wantDyadic(t, "PlusDyadic", c.b, got, ok, c.want)
	}
	for _, c := range [][2]impl.Dyadic{
		{{Num: 1, Exp: 50}, {Num: 1}},
		{{Num: 1, Exp: 100}, {Num: 1, Exp: 100}},
		{{Num: 1, Exp: 100}, {Num: 1, Exp: -100}},
		{{Num: 1, Exp: 64}, {Num: 1}},
		{{Num: 3, Exp: 62}, {Num: 5}},
	} {
		got, ok := impl.PlusDyadic(c[0], c[1])
		wantNoDyadic(t, "PlusDyadic", c, got, ok)
	}
}

func TestProductEnds(t *testing.T) {
	for _, c := range [][3]impl.Dyadic{
		{{}, {Num: 1, Exp: 100}, {}},
		{{}, {}, {}},
		{{Num: 1, Exp: 60}, {Num: -1, Exp: 40}, {Num: -1, Exp: 100}},
		{{Num: 1<<25 - 1, Exp: 1}, {Num: 1<<25 + 1, Exp: 1}, {Num: 1<<50 - 1, Exp: 2}},
	} {
		got, ok := impl.TimesDyadic(c[0], c[1])
		wantDyadic(t, "TimesDyadic", c, got, ok, c[2])
	}
	for _, c := range [][2]impl.Dyadic{
		{{Num: 1, Exp: 60}, {Num: 1, Exp: 41}},
		{{Num: 1, Exp: -60}, {Num: 1, Exp: -41}},
		{{Num: 1<<25 + 1}, {Num: 1<<25 + 1}},
		{{Num: 1<<49 + 1}, {Num: 1<<49 + 1}},
		{{Num: 1<<32 + 1}, {Num: 1<<32 - 1}},
	} {
		got, ok := impl.TimesDyadic(c[0], c[1])
		wantNoDyadic(t, "TimesDyadic", c, got, ok)
	}
}

func TestRoundDyadic(t *testing.T) {
	for _, f := range allFormats() {
		s := scaleOf(f)
		for _, d := range s.numbers(t) {
			for _, mode := range modes {
				got, ok := impl.RoundDyadic(f, d, mode)
				want := s.round(exactly(d), mode)
				if !ok || got != want {
					t.Fatalf("RoundDyadic of %v, %v in mode %d: got %d, %v, want %d", f, d, mode, got, ok, want)
				}
			}
		}
	}
}

// TestRoundManyPlaces: numbers with more places than a float32 has are just off
// values and midpoints.
func TestRoundManyPlaces(t *testing.T) {
	for _, f := range []impl.Format{smallest, example, largest, {Exponent: 5, Fraction: 1}, {Exponent: 2, Fraction: 10}} {
		s := scaleOf(f)
		for _, p := range s.spots() {
			middle := new(big.Rat).Add(s.sizes[p], s.behind(p))
			middle.Mul(middle, big.NewRat(1, 2))
			for _, r := range []*big.Rat{s.sizes[p], middle} {
				checkJustOff(t, s, r)
			}
		}
	}
}

// checkJustOff looks at both sides of r, as near as a number with 50 places is.
func checkJustOff(t *testing.T, s scale, r *big.Rat) {
	t.Helper()
	d := dyadic(t, r)
	off := new(big.Rat).Mul(powerOfTwo(d.Exp), powerOfTwo(-34))
	for _, number := range []*big.Rat{new(big.Rat).Add(r, off), new(big.Rat).Sub(r, off)} {
		near, ok := dyadicFor(number)
		if !ok {
			continue
		}
		for _, mode := range modes {
			got, ok := impl.RoundDyadic(s.f, near, mode)
			wantInt(t, "RoundDyadic", s.f, mode, got, ok, s.round(number, mode))
		}
	}
}

func TestRoundBeyond(t *testing.T) {
	infinite := map[int]int{impl.ModeEven: 120, impl.ModeAway: 120, impl.ModeZero: 119, impl.ModeUp: 120, impl.ModeDown: 119, impl.ModeOdd: 119}
	negative := map[int]int{impl.ModeEven: 248, impl.ModeAway: 248, impl.ModeZero: 247, impl.ModeUp: 247, impl.ModeDown: 248, impl.ModeOdd: 247}
	for _, mode := range modes {
		for _, d := range []impl.Dyadic{
			{Num: 31, Exp: 3}, {Num: 1, Exp: 8}, {Num: 257}, {Num: 1, Exp: 100}, {Num: impl.MaxNum - 1, Exp: 100}, {Num: 1, Exp: 31}, {Num: 1, Exp: 32}, {Num: 3, Exp: 33},
		} {
			got, ok := impl.RoundDyadic(example, d, mode)
			wantInt(t, "RoundDyadic", example, mode, got, ok, infinite[mode])
			got, ok = impl.RoundDyadic(example, impl.Dyadic{Num: -d.Num, Exp: d.Exp}, mode)
			wantInt(t, "RoundDyadic", example, mode, got, ok, negative[mode])
		}
	}
}

func TestRoundBelowUnit(t *testing.T) {
	up := map[int]bool{impl.ModeUp: true, impl.ModeOdd: true}
	down := map[int]bool{impl.ModeDown: true, impl.ModeOdd: true}
	for _, f := range allFormats() {
		zero := 1 << (widthOf(f) - 1)
		for _, mode := range modes {
			got, ok := impl.RoundDyadic(f, impl.Dyadic{}, mode)
			wantInt(t, "RoundDyadic of 0", f, mode, got, ok, 0)
			got, ok = impl.RoundDyadic(f, impl.Dyadic{Num: 1, Exp: -100}, mode)
			wantInt(t, "RoundDyadic of little", f, mode, got, ok, oneIf(up[mode]))
			got, ok = impl.RoundDyadic(f, impl.Dyadic{Num: -1, Exp: -100}, mode)
			wantInt(t, "RoundDyadic of little below 0", f, mode, got, ok, zero+oneIf(down[mode]))
		}
	}
}

func oneIf(is bool) int {
	if is {
		return 1
	}
	return 0
}

// TestRoundIsMonotone: greater numbers have results that are not less.
func TestRoundIsMonotone(t *testing.T) {
	for _, f := range allFormats() {
		list := append(scaleOf(f).numbers(t), someDyadics()...)
		slices.SortFunc(list, func(a, b impl.Dyadic) int { return exactly(a).Cmp(exactly(b)) })
		for _, mode := range modes {
			last := math.MinInt
			for _, d := range list {
				p, ok := impl.RoundDyadic(f, d, mode)
				key, fine := impl.OrderKey(f, p)
				if !ok || !fine || key < last {
					t.Fatalf("RoundDyadic of %v, %v in mode %d: got %d, behind the order %d", f, d, mode, p, last)
				}
				last = key
			}
		}
	}
}

func TestRoundFraction(t *testing.T) {
	for _, f := range allFormats() {
		s := scaleOf(f)
		for _, den := range []int{1, 2, 3, 4, 7, 10, 64, 96, 1000, 4097, 1 << 29, 999999937, 1000000000} {
			for _, num := range []int{0, 1, 2, 3, 7, 11, 12, 100, 999, 65519, 65520, 65521, 131071, 999999999, 1000000000} {
				for _, n := range []int{num, -num} {
					checkFraction(t, s, n, den)
				}
			}
		}
	}
}

func checkFraction(t *testing.T, s scale, num int, den int) {
	t.Helper()
	for _, mode := range modes {
		got, ok := impl.RoundFraction(s.f, num, den, mode)
		want := s.round(big.NewRat(int64(num), int64(den)), mode)
		if !ok || got != want {
			t.Fatalf("RoundFraction of %v, %d / %d in mode %d: got %d, %v, want %d", s.f, num, den, mode, got, ok, want)
		}
	}
}

// TestRoundFractionAtMidpoints: fractions that are midpoints, and those that
// are off by one in a great numerator.
func TestRoundFractionAtMidpoints(t *testing.T) {
	for _, f := range narrowFormats() {
		s := scaleOf(f)
		for p := range s.sizes {
			middle := new(big.Rat).Add(s.sizes[p], s.behind(p))
			middle.Mul(middle, big.NewRat(1, 2))
			num, den := int(middle.Num().Int64()), int(middle.Denom().Int64())
			most := 1000000000 / max(num, den)
			for _, by := range []int{1, 3, most} {
				checkFraction(t, s, num*by, den*by)
				checkFraction(t, s, -num*by, den*by)
				checkFraction(t, s, num*by-1, den*by)
				checkFraction(t, s, 1-num*by, den*by)
				checkFraction(t, s, min(num*by+1, 1000000000), den*by)
			}
		}
	}
}

func TestRoundFractionRefuses(t *testing.T) {
	for _, c := range [][2]int{
		{1, 0}, {0, 0}, {1, -1}, {-1, -1}, {1, math.MinInt}, {1, math.MaxInt}, {1, 1000000001}, {0, 1000000001},
		{1000000001, 1}, {-1000000001, 1}, {math.MaxInt, 1}, {math.MinInt, 1}, {math.MinInt, math.MinInt}, {1 << 40, 1 << 40},
	} {
		for _, mode := range modes {
			got, ok := impl.RoundFraction(example, c[0], c[1], mode)
			wantNone(t, "RoundFraction", example, c, got, ok)
		}
	}
}

func TestFlagsAndIsExact(t *testing.T) {
	for _, f := range allFormats() {
		s := scaleOf(f)
		leastNormal := new(big.Rat).SetFloat64(sizeOf(f, 1, 0))
		for _, d := range s.numbers(t) {
			size := new(big.Rat).Abs(exactly(d))
			_, isValue := s.below(size)
			want := 0
			if !isValue {
				want = 1 + 2*oneIf(size.Cmp(s.sizes[len(s.sizes)-1]) > 0) + 4*oneIf(size.Cmp(leastNormal) < 0)
			}
			got, ok := impl.FlagsOf(f, d)
			wantInt(t, "FlagsOf", f, d.Num, got, ok, want)
			if exact, ok := impl.IsExact(f, d); !ok || exact != isValue {
				t.Fatalf("IsExact of %v, %v: got %v, %v", f, d, exact, ok)
			}
		}
	}
}

func TestFlagsTold(t *testing.T) {
	for _, c := range []struct {
		d    impl.Dyadic
		want int
	}{
		{impl.Dyadic{}, 0},
		{impl.Dyadic{Num: 1}, 0},
		{impl.Dyadic{Num: 17}, 1},
		{impl.Dyadic{Num: 15, Exp: 4}, 0},
		{impl.Dyadic{Num: 241}, 3},
		{impl.Dyadic{Num: -1, Exp: 8}, 3},
		{impl.Dyadic{Num: 1, Exp: 100}, 3},
		{impl.Dyadic{Num: 1, Exp: -9}, 0},
		{impl.Dyadic{Num: 1, Exp: -10}, 5},
		{impl.Dyadic{Num: -15, Exp: -10}, 5},
		{impl.Dyadic{Num: 17, Exp: -10}, 1},
		{impl.Dyadic{Num: 1, Exp: -100}, 5},
	} {
		got, ok := impl.FlagsOf(example, c.d)
		wantInt(t, "FlagsOf", example, c.d.Num, got, ok, c.want)
	}
}

func TestBoundsOf(t *testing.T) {
	for _, f := range allFormats() {
		s := scaleOf(f)
		for _, d := range s.numbers(t) {
			r := exactly(d)
			low, high := s.round(r, impl.ModeDown), s.round(r, impl.ModeUp)
			down, up, ok := impl.BoundsOf(f, d)
			if !ok || down != low || up != high {
				t.Fatalf("BoundsOf of %v, %v: got %d, %d, %v, want %d, %d", f, d, down, up, ok, low, high)
			}
			for _, mode := range modes {
				if p, ok := impl.RoundDyadic(f, d, mode); !ok || p != down && p != up {
					t.Fatalf("RoundDyadic of %v, %v in mode %d: got %d, not %d or %d", f, d, mode, p, down, up)
				}
			}
		}
	}
}

func TestMidpoints(t *testing.T) {
	for _, f := range allFormats() {
		s := scaleOf(f)
		for _, p := range allPatterns(f) {
			got, ok := impl.MidpointOf(f, p)
			x := tell(f, p)
			up, _ := impl.NextUp(f, p)
			if x.kind >= 3 || tell(f, up).kind >= 3 {
				wantNoDyadic(t, "MidpointOf", p, got, ok)
				continue
			}
			middle := new(big.Rat).Add(s.value(p), s.value(up))
			want := dyadic(t, middle.Mul(middle, big.NewRat(1, 2)))
			wantDyadic(t, "MidpointOf", p, got, ok, want)
			if is, ok := impl.IsMidpoint(f, want); !is || !ok {
				t.Fatalf("IsMidpoint of %v, %v: got %v, %v", f, want, is, ok)
			}
		}
	}
}

func TestIsMidpoint(t *testing.T) {
	for _, f := range allFormats() {
		s := scaleOf(f)
		for _, d := range s.numbers(t) {
			size := new(big.Rat).Abs(exactly(d))
			lower, _ := s.below(size)
			want := false
			if lower+1 < len(s.sizes) {
				sum := new(big.Rat).Add(s.sizes[lower], s.sizes[lower+1])
				want = sum.Cmp(size.Mul(size, big.NewRat(2, 1))) == 0
			}
			if got, ok := impl.IsMidpoint(f, d); got != want || !ok {
				t.Fatalf("IsMidpoint of %v, %v: got %v, %v", f, d, got, ok)
			}
		}
	}
}

func TestMidpointEnds(t *testing.T) {
	for _, c := range []struct {
		p    int
		want impl.Dyadic
	}{
		{0, impl.Dyadic{Num: 1, Exp: -10}},
		{128, impl.Dyadic{Num: 1, Exp: -10}},
		{129, impl.Dyadic{Num: -1, Exp: -10}},
		{118, impl.Dyadic{Num: 29, Exp: 3}},
		{247, impl.Dyadic{Num: -29, Exp: 3}},
	} {
		got, ok := impl.MidpointOf(example, c.p)
		wantDyadic(t, "MidpointOf", c.p, got, ok, c.want)
	}
	for _, p := range []int{119, 120, 121, 127, 248, 249, 255} {
		got, ok := impl.MidpointOf(example, p)
		wantNoDyadic(t, "MidpointOf", p, got, ok)
	}
	for _, d := range []impl.Dyadic{{}, {Num: 31, Exp: 3}, {Num: -31, Exp: 3}, {Num: 1, Exp: -9}, {Num: 1, Exp: 100}, {Num: 1, Exp: -100}} {
		if got, ok := impl.IsMidpoint(example, d); got || !ok {
			t.Errorf("IsMidpoint of %v: got %v, %v", d, got, ok)
		}
	}
}

func TestErrorOf(t *testing.T) {
	for _, f := range allFormats() {
		s := scaleOf(f)
		for _, d := range s.numbers(t) {
			for _, mode := range modes {
				got, ok := impl.ErrorOf(f, d, mode)
				p := s.round(exactly(d), mode)
				if tell(f, p).kind == 3 {
					wantNoDyadic(t, "ErrorOf", d, got, ok)
					continue
				}
				wantDyadicIf(t, "ErrorOf", d, got, ok, new(big.Rat).Sub(s.value(p), exactly(d)))
			}
		}
	}
}

func TestErrorEnds(t *testing.T) {
	for _, c := range []struct {
		d    impl.Dyadic
		mode int
		want impl.Dyadic
	}{
		{impl.Dyadic{Num: 17}, impl.ModeEven, impl.Dyadic{Num: -1}},
		{impl.Dyadic{Num: 17}, impl.ModeUp, impl.Dyadic{Num: 1}},
		{impl.Dyadic{Num: -17}, impl.ModeEven, impl.Dyadic{Num: 1}},
		{impl.Dyadic{}, impl.ModeUp, impl.Dyadic{}},
		{impl.Dyadic{Num: 1, Exp: -100}, impl.ModeZero, impl.Dyadic{Num: -1, Exp: -100}},
		{impl.Dyadic{Num: 1, Exp: 8}, impl.ModeZero, impl.Dyadic{Num: -1, Exp: 4}},
	} {
		got, ok := impl.ErrorOf(example, c.d, c.mode)
		wantDyadic(t, "ErrorOf", c.d, got, ok, c.want)
	}
	for _, c := range []struct {
		d    impl.Dyadic
		mode int
	}{
		{impl.Dyadic{Num: 31, Exp: 3}, impl.ModeEven},
		{impl.Dyadic{Num: 241}, impl.ModeUp},
		{impl.Dyadic{Num: -241}, impl.ModeDown},
		{impl.Dyadic{Num: 1, Exp: -100}, impl.ModeUp},
		{impl.Dyadic{Num: 1, Exp: 100}, impl.ModeZero},
	} {
		got, ok := impl.ErrorOf(example, c.d, c.mode)
		wantNoDyadic(t, "ErrorOf", c.d, got, ok)
	}
}

func TestDyadicText(t *testing.T) {
	for text, d := range map[string]impl.Dyadic{
		"0*2^0":                    {},
		"17*2^0":                   {Num: 17},
		"-3*2^-5":                  {Num: -3, Exp: -5},
		"1*2^100":                  {Num: 1, Exp: 100},
		"-1125899906842623*2^-100": {Num: -1125899906842623, Exp: -100},
	} {
		got, ok := impl.DyadicText(d)
		if got != text || !ok {
			t.Errorf("DyadicText of %v: got %q, %v", d, got, ok)
		}
		back, ok := impl.ParseDyadic(text)
		wantDyadic(t, "ParseDyadic", text, back, ok, d)
	}
	for _, d := range someDyadics() {
		text, ok := impl.DyadicText(d)
		if !ok {
			t.Errorf("DyadicText of %v fails", d)
		}
		back, ok := impl.ParseDyadic(text)
		wantDyadic(t, "ParseDyadic", text, back, ok, d)
	}
}

func TestParseDyadicRefuses(t *testing.T) {
	for _, s := range []string{
		"", "*2^", "17", "17*2^", "*2^0", "17*2", "17*2^0*2^0", "*2^17*2^0", "17*2^*2^0", "17 *2^0", " 17*2^0", "17*2^0 ", "17*2^ 0", "17*2^0\n", "17*2^0\x00",
		"+17*2^0", "17*2^+0", "17*2^-0", "-0*2^0", "0*2^-0", "017*2^0", "17*2^00", "17*2^01", "-017*2^0", "--17*2^0", "17*2^--1", "1_7*2^0", "0x11*2^0",
		"17*3^0", "17x2^0", "17*2*0", "17*2**0", "17**2^0", "17.0*2^0", "17*2^0.0", "1e1*2^0", "a*2^0", "17*2^a", "-*2^0", "17*2^-", "١*2^0", "17*2^٠", "17*2^\xb0",
		"2*2^0", "-34*2^0", "0*2^1", "0*2^-1", "1*2^101", "1*2^-101", "1*2^1000", "1125899906842624*2^0", "1125899906842625*2^0", "-1125899906842625*2^0",
		"9223372036854775807*2^0", "9223372036854775809*2^0", "18446744073709551617*2^0", "1*2^18446744073709551616", "-9223372036854775807*2^0",
		"1*2^9223372036854775808", strings.Repeat("1", 100000) + "*2^0", "1*2^" + strings.Repeat("0", 100000), strings.Repeat("*2^", 100000),
	} {
		got, ok := impl.ParseDyadic(s)
		wantNoDyadic(t, "ParseDyadic", s, got, ok)
	}
}

func TestParseDyadicOneByteWrong(t *testing.T) {
	const text = "-17*2^-5"
	for i := range len(text) {
		for b := range 256 {
			s := text[:i] + string([]byte{byte(b)}) + text[i+1:]
			got, ok := impl.ParseDyadic(s)
			back, fine := impl.DyadicText(got)
			if ok != (fine && back == s) || ok != isDyadicText(s) {
				t.Fatalf("ParseDyadic of %q: got %v, %v", s, got, ok)
			}
			if !ok {
				wantNoDyadic(t, "ParseDyadic", s, got, ok)
			}
		}
	}
}

// isDyadicText knows what may become of the text by one other byte: each of the
// three digits and the two signs may be other digits, if the number stays odd.
func isDyadicText(s string) bool {
	isDigit := func(i int) bool { return s[i] >= '1' && s[i] <= '9' }
	isSign := func(i int) bool { return s[i] == '-' || isDigit(i) }
	isOdd := s[2]%2 == 1 && (isDigit(2))
	return isSign(0) && isDigit(1) && isOdd && s[3:6] == "*2^" && isSign(6) && (isDigit(7) || isDigit(6) && s[7] == '0')
}
