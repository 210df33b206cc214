package tests

import (
	"math/big"
	"testing"

	"loop.example/g01178/impl"
)

// bitsWithSpreads are those for which tests look at the spreads of many numbers.
var bitsWithSpreads = []int{0, 1, 3, 8, 12}

// TestRoundingByBits holds chances, patterns and means against the document's words.
func TestRoundingByBits(t *testing.T) {
	for _, f := range allFormats() {
		r := rulers()[f]
		for _, d := range r.numbersToRound(t) {
			for bits := range impl.MaxBits + 1 {
				checkRound(t, r, d, bits)
			}
		}
	}
}

func checkRound(t *testing.T, r ruler, d impl.Dyadic, bits int) {
	t.Helper()
	fork, fine := r.fork(doubleOf(d), bits)
	if !fine {
		t.Fatalf("%v is too great for %v", d, r.f)
	}
	chance, ok := impl.ChanceUp(r.f, d, bits)
	if !ok || chance != fork.c {
		t.Fatalf("ChanceUp of %v, %v and %d: got %d, %v, want %d", r.f, d, bits, chance, ok, fork.c)
	}
	for _, choice := range choicesFor(fork) {
		p, ok := impl.RandomRound(r.f, d, bits, choice)
		if !ok || p != fork.taken(choice) {
			t.Fatalf("RandomRound of %v, %v, %d and %d: got %d, %v, want %d", r.f, d, bits, choice, p, ok, fork.taken(choice))
		}
	}
	mean, ok := impl.MeanOfRound(r.f, d, bits)
	if !ok || doubleOf(mean) != r.mean(fork) || !impl.IsDyadic(mean) {
		t.Fatalf("MeanOfRound of %v, %v and %d: got %v, %v, want %v", r.f, d, bits, mean, ok, r.mean(fork))
	}
}

func TestSpreads(t *testing.T) {
	for _, f := range allFormats() {
		r := rulers()[f]
		count, fails := 0, 0
		for i, d := range r.numbersToRound(t) {
			bits := bitsWithSpreads[i%len(bitsWithSpreads)]
			fork, _ := r.fork(doubleOf(d), bits)
			want, fine := r.spread(d, fork)
			got, ok := impl.SpreadOfRound(f, d, bits)
			if ok != fine || got != want {
				t.Fatalf("SpreadOfRound of %v, %v and %d: got %v, %v, want %v, %v", f, d, bits, got, ok, want, fine)
			}
			count++
			fails += oneIf(!fine)
		}
		if fails == 0 || fails == count {
			t.Errorf("%d of %d spreads for %v are no dyadic number", fails, count, f)
		}
	}
}

// TestAllChoicesCount holds ChanceUp, MeanOfRound and SpreadOfRound against the patterns
// for all r.
func TestAllChoicesCount(t *testing.T) {
	numbers := []impl.Dyadic{{}, {Num: 1}, {Num: 17, Exp: -4}, {Num: -17, Exp: -4}, {Num: 0x1555, Exp: -12}, {Num: -0x2aaab, Exp: -17}, {Num: 1, Exp: -5}, {Num: -3, Exp: -7}, {Num: 4095, Exp: -12}}
	for _, f := range allFormats() {
		for _, d := range numbers {
			for bits := range impl.MaxBits + 1 {
				checkAllChoices(t, f, d, bits)
			}
		}
	}
}

func checkAllChoices(t *testing.T, f impl.Format, d impl.Dyadic, bits int) {
	t.Helper()
	values := rulers()[f].values
	all, uppers := 1<<bits, 0
	lower, _ := impl.RandomRound(f, d, bits, 0)
	sum, squares := new(big.Rat), new(big.Rat)
	for choice := range all {
		p, ok := impl.RandomRound(f, d, bits, choice)
		if !ok {
			t.Fatalf("RandomRound of %v, %v, %d and %d fails", f, d, bits, choice)
		}
		uppers += oneIf(p != lower)
		value := new(big.Rat).SetFloat64(values[p])
		sum.Add(sum, value)
		value.Sub(value, exactly(d))
		squares.Add(squares, value.Mul(value, value))
	}
	part := big.NewRat(1, int64(all))
	chance, ok := impl.ChanceUp(f, d, bits)
	wantInt(t, "ChanceUp", f, bits, chance, ok, uppers)
	mean, ok := impl.MeanOfRound(f, d, bits)
	wantDyadic(t, "MeanOfRound", []any{f, d, bits}, mean, ok, dyadic(t, sum.Mul(sum, part)))
	spread, ok := impl.SpreadOfRound(f, d, bits)
	wantDyadic(t, "SpreadOfRound", []any{f, d, bits}, spread, ok, dyadic(t, squares.Mul(squares, part)))
}

// TestNoBitsTruncate: with 0 bits the lower one is always taken, as in ModeZero.
func TestNoBitsTruncate(t *testing.T) {
	for _, f := range allFormats() {
		for _, d := range rulers()[f].numbersToRound(t) {
			want, _ := impl.RoundDyadic(f, d, impl.ModeZero)
			got, ok := impl.RandomRound(f, d, 0, 0)
			wantResults(t, "RandomRound", f, d, []int{got}, ok, []int{want}, true)
		}
	}
}

func TestFairBits(t *testing.T) {
	for _, f := range allFormats() {
		r := rulers()[f]
		found := map[int]bool{}
		for _, d := range r.numbersToRound(t) {
			want, fine := r.fairBits(doubleOf(d))
			got, ok := impl.BitsToBeFair(f, d)
			if ok != fine || got != want {
				t.Fatalf("BitsToBeFair of %v and %v: got %d, %v, want %d, %v", f, d, got, ok, want, fine)
			}
			if !ok {
				got = -1
			}
			found[got] = true
		}
		for _, bits := range []int{-1, 0, 1, 2, 11, 12} {
			if !found[bits] {
				t.Errorf("no number of %v needs %d bits", f, bits)
			}
		}
	}
}

// TestGreatNumbersAreNotRoundedByBits: also where rounding in a mode takes them to the
// greatest finite value.
func TestGreatNumbersAreNotRoundedByBits(t *testing.T) {
	for _, f := range allFormats() {
		for _, d := range rulers()[f].greatNumbers(t) {
			for bits := range impl.MaxBits + 1 {
				x := randomArguments{d: d, bits: bits}
				for _, name := range []string{"RandomRound", "ChanceUp", "MeanOfRound", "BitsToBeFair", "SpreadOfRound"} {
					got, ok := randomCall(t, name)(f, x)
					wantResults(t, name, f, x, got, ok, nil, false)
				}
			}
		}
	}
}
