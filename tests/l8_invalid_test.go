package tests

import (
	"math"
	"slices"
	"testing"

	"loop.example/g01178/impl"
)

// TestPlainRandomsAreTaken: so that in the tests below a single argument lets a call
// fail.
func TestPlainRandomsAreTaken(t *testing.T) {
	for _, f := range allFormats() {
		for _, c := range randomCalls {
			if _, ok := c.call(f, plainRandom()); !ok {
				t.Errorf("%s of %v and %v fails", c.what, f, plainRandom())
			}
		}
	}
}

func TestRandomsRequireFormats(t *testing.T) {
	for _, f := range notFormats() {
		for _, c := range randomCalls {
			for _, x := range []randomArguments{{}, plainRandom(), {d: impl.Dyadic{Num: 1}, bits: 12}} {
				got, ok := c.call(f, x)
				wantResults(t, c.what, f, x, got, ok, nil, false)
			}
		}
	}
}

// wantRefused calls all functions that take something.
func wantRefused(t *testing.T, f impl.Format, word string, x randomArguments) {
	t.Helper()
	for _, c := range randomCalls {
		if takes(c.takes, word) {
			got, ok := c.call(f, x)
			wantResults(t, c.what, f, x, got, ok, nil, false)
		}
	}
}

func TestRandomsRequireDyadics(t *testing.T) {
	for _, f := range allFormats() {
		for _, d := range notDyadics() {
			for bits := range impl.MaxBits + 1 {
				wantRefused(t, f, "d", randomArguments{d: d, bits: bits})
			}
		}
	}
}

// TestRandomsRequireFinitePatterns: also where there is no step to make.
func TestRandomsRequireFinitePatterns(t *testing.T) {
	for _, f := range allFormats() {
		for _, p := range refused(f) {
			for _, steps := range []int{0, 1, 2} {
				x := plainRandom()
				x.steps, x.choices = steps, make([]int, steps)
				x.start = p
				wantRefused(t, f, "start", x)
				x.start, x.add = 0, p
				wantRefused(t, f, "add", x)
				x.start = p
				wantRefused(t, f, "start", x)
			}
		}
	}
}

// TestRandomsRequireNumbers: bits, r and steps just out of range, and far from it.
func TestRandomsRequireNumbers(t *testing.T) {
	far := []int{math.MinInt, math.MinInt + 1, -1 << 40, -64, -1, 1 << 40, math.MaxInt - 1, math.MaxInt}
	for _, f := range allFormats() {
		for _, bits := range append([]int{13, 14, 63, 64, 65, 128}, far...) {
			for _, x := range []randomArguments{plainRandom(), {}} {
				x.bits = bits
				wantRefused(t, f, "bits", x)
			}
		}
		for _, steps := range append([]int{101, 102, 1000}, far...) {
			for _, x := range []randomArguments{plainRandom(), {}} {
				x.steps = steps
				wantRefused(t, f, "steps", x)
			}
		}
		for bits := range impl.MaxBits + 1 {
			for _, r := range append([]int{1 << bits, 1<<bits + 1, 4096, -1 << bits}, far...) {
				for _, d := range []impl.Dyadic{{}, {Num: 1}, {Num: 5, Exp: -2}, {Num: -3, Exp: -60}} {
					x := randomArguments{d: d, bits: bits, r: r}
					wantRefused(t, f, "r", x)
				}
				checkWrongChoice(t, f, bits, r)
			}
		}
	}
}

// checkWrongChoice has an r out of range in each place of a list.
func checkWrongChoice(t *testing.T, f impl.Format, bits, r int) {
	t.Helper()
	for place := range 3 {
		x := randomArguments{bits: bits, choices: make([]int, 3)}
		x.choices[place] = r
		wantRefused(t, f, "choices", x)
	}
}

func TestListsOfChoicesHaveLimits(t *testing.T) {
	for _, f := range allFormats() {
		for bits := range impl.MaxBits + 1 {
			for _, count := range []int{0, 1, 99, 100, 101, 102, 1000} {
				choices := slices.Repeat([]int{1<<bits - 1}, count)
				got, ok := impl.RandomSum(f, 1, 0, bits, choices)
				want := oneIf(count <= 100)
				wantResults(t, "RandomSum", f, count, []int{got}, ok, []int{want}, want == 1)
			}
		}
	}
}

// TestChoicesStay: no list is changed, nor what lies around it, and the same call gives
// the same result again.
func TestChoicesStay(t *testing.T) {
	for _, f := range allFormats() {
		for i, pair := range rulers()[f].startsAndAdds() {
			for _, choices := range [][]int{nil, {}, {0}, {1, 0, 1}, slices.Repeat([]int{1, 0}, 1+i%50), {0, 1, 2}} {
				around, inside := surrounded(choices)
				before := slices.Clone(around)
				first, ok := impl.RandomSum(f, pair[0], pair[1], 1, inside)
				second, fine := impl.RandomSum(f, pair[0], pair[1], 1, inside)
				if first != second || ok != fine || !slices.Equal(around, before) {
					t.Fatalf("RandomSum of %v, %v and %v: got %d, then %d, and leaves %v", f, pair, choices, first, second, around)
				}
			}
		}
	}
}

// TestOutcomesAreNew: what is written into a result, and into the room behind it, is
// found neither in the other result nor in what is returned the next time.
func TestOutcomesAreNew(t *testing.T) {
	for _, f := range allFormats() {
		for _, pair := range rulers()[f].startsAndAdds() {
			for _, c := range [][2]int{{0, 0}, {1, 0}, {1, 5}, {0, 100}, {12, 1}} {
				patterns, counts, ok := impl.OutcomesOf(f, pair[0], pair[1], c[0], c[1])
				keptPatterns, keptCounts := slices.Clone(patterns), slices.Clone(counts)
				overwrite(patterns)
				if !slices.Equal(counts, keptCounts) {
					t.Fatalf("OutcomesOf %v, %v and %v: the counts share memory with the patterns", f, pair, c)
				}
				overwrite(counts)
				patterns, counts, fine := impl.OutcomesOf(f, pair[0], pair[1], c[0], c[1])
				if ok != fine || !slices.Equal(patterns, keptPatterns) || !slices.Equal(counts, keptCounts) {
					t.Fatalf("OutcomesOf %v, %v and %v: got %v, %v, then %v, %v", f, pair, c, keptPatterns, keptCounts, patterns, counts)
				}
			}
		}
	}
}

// TestRandomsAreTotal: a panic in one of the calls fails the test, and so does a result
// beside false.
func TestRandomsAreTotal(t *testing.T) {
	for _, a := range wild {
		for _, b := range wild {
			for _, f := range []impl.Format{example, smallest, largest, {Exponent: a, Fraction: b}, {Exponent: 4, Fraction: a}, {Exponent: b, Fraction: 3}} {
				checkRandomsAreTotal(t, f, a, b)
			}
		}
	}
}

func checkRandomsAreTotal(t *testing.T, f impl.Format, a, b int) {
	t.Helper()
	d := impl.Dyadic{Num: a, Exp: b}
	arguments := []randomArguments{
		{d: d, bits: a, r: b, start: a, add: b, steps: a, choices: []int{a, b}},
		{d: d, bits: b, r: a, start: b, add: a, steps: b, choices: []int{b, a, a, 1}},
		{d: d, bits: 1, r: 1, start: a, add: b, steps: 12, choices: []int{0, 1, 1}},
		{d: impl.Dyadic{Num: b | 1, Exp: a}, bits: 12, r: 4095, start: a, add: b, steps: 1, choices: []int{4095}},
		{d: impl.Dyadic{Num: a | 1, Exp: -9}, bits: a, r: 0, start: 1, add: b, steps: b, choices: slices.Repeat([]int{0}, 100)},
	}
	for _, x := range arguments {
		for _, c := range randomCalls {
			if got, ok := c.call(f, x); !ok && got != nil {
				t.Fatalf("%s of %v and %v fails with %v", c.what, f, x, got)
			}
		}
	}
}
