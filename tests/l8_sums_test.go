package tests

import (
	"cmp"
	"math/big"
	"math/rand/v2"
	"slices"
	"sync"
	"testing"

	"loop.example/g01178/impl"
)

// TestRandomSums holds sums against the document's words: for lists of all numbers of
// steps at some bits, and at all bits of some numbers of steps.
func TestRandomSums(t *testing.T) {
	random := rand.New(rand.NewPCG(8, 100))
	for _, f := range allFormats() {
		r := rulers()[f]
		for i, pair := range r.startsAndAdds() {
			for bits := range impl.MaxBits + 1 {
				for _, steps := range []int{0, 1, 2, 3, i, 99, 100} {
					var choices []int
					for range steps {
						choices = append(choices, random.IntN(1<<bits))
					}
					checkRandomSum(t, r, pair, bits, choices)
				}
			}
		}
	}
}

func checkRandomSum(t *testing.T, r ruler, pair [2]int, bits int, choices []int) {
	t.Helper()
	want, fine := r.steps(pair[0], pair[1], bits, choices)
	got, ok := impl.RandomSum(r.f, pair[0], pair[1], bits, choices)
	if ok != fine || got != want {
		t.Fatalf("RandomSum of %v, %v, %d and %v: got %d, %v, want %d, %v", r.f, pair, bits, choices, got, ok, want, fine)
	}
}

func TestEvenSumsAndStalls(t *testing.T) {
	for _, f := range allFormats() {
		r := rulers()[f]
		for _, pair := range r.startsAndAdds() {
			checkEven(t, r, pair)
		}
	}
	for _, f := range narrowFormats() {
		r := rulers()[f]
		for _, start := range patternsFor(f) {
			for _, add := range patternsFor(f) {
				if r.finite(start) && r.finite(add) {
					checkEven(t, r, [2]int{start, add})
				}
			}
		}
	}
}

func checkEven(t *testing.T, r ruler, pair [2]int) {
	t.Helper()
	path, stalls := r.evenPath(pair[0], pair[1])
	last := len(path) - 1
	for _, steps := range []int{0, 1, 2, 3, 10, 37, 99, 100} {
		want, fine := 0, stalls || steps <= last
		if fine {
			want = path[min(steps, last)]
		}
		got, ok := impl.EvenSum(r.f, pair[0], pair[1], steps)
		if ok != fine || got != want {
			t.Fatalf("EvenSum of %v, %v and %d: got %d, %v, want %d, %v", r.f, pair, steps, got, ok, want, fine)
		}
	}
	pattern, behind := 0, 0
	if stalls {
		pattern, behind = path[last], last
	}
	got, steps, ok := impl.StallsAt(r.f, pair[0], pair[1])
	if ok != stalls || got != pattern || steps != behind {
		t.Fatalf("StallsAt of %v and %v: got %d, %d, %v, want %d, %d, %v", r.f, pair, got, steps, ok, pattern, behind, stalls)
	}
}

// allSums goes through all lists of r. It tells for how many each pattern comes, and
// whether the mean of each sum on the way is the sum. It fails if one is too great.
type allSums struct {
	r      ruler
	add    int
	bits   int
	counts map[int]int
	fair   bool
	fits   bool
}

func (s *allSums) visit(p, steps int) {
	if steps == 0 {
		s.counts[p]++
		return
	}
	sum := s.r.values[p] + s.r.values[s.add]
	fork, ok := s.r.fork(sum, s.bits)
	if !ok {
		s.fits = false
		return
	}
	s.fair = s.fair && s.r.mean(fork) == sum
	for choice := range fork.all {
		if s.fits {
			s.visit(fork.taken(choice), steps-1)
		}
	}
}

func (r ruler) allSums(pair [2]int, bits, steps int) *allSums {
	s := &allSums{r: r, add: pair[1], bits: bits, counts: map[int]int{}, fair: true, fits: true}
	s.visit(pair[0], steps)
	return s
}

// told returns patterns by their order, and their counts.
func (s *allSums) told() ([]int, []int) {
	var patterns, counts []int
	for p := range s.counts {
		patterns = append(patterns, p)
	}
	key := func(p int) int {
		if p >= s.r.signBit() {
			return s.r.signBit() - 1 - p
		}
		return p
	}
	slices.SortFunc(patterns, func(a, b int) int { return cmp.Compare(key(a), key(b)) })
	for _, p := range patterns {
		counts = append(counts, s.counts[p])
	}
	return patterns, counts
}

// mean is that of the values behind all lists.
func (s *allSums) mean(steps int) *big.Rat {
	sum := new(big.Rat)
	for p, count := range s.counts {
		value := new(big.Rat).SetFloat64(s.r.values[p])
		sum.Add(sum, value.Mul(value, big.NewRat(int64(count), 1)))
	}
	return sum.Mul(sum, powerOfTwo(-s.bits*steps))
}

// bitsAndSteps are those with which outcomes are looked at, with at most MaxOutcomes
// lists: with no bits, with no steps, and with as many lists as there may be.
var bitsAndSteps = [][2]int{
	{0, 0}, {0, 1}, {0, 2}, {0, 100}, {1, 0}, {12, 0}, {1, 1}, {1, 2}, {1, 3}, {2, 2}, {1, 7},
	{1, 11}, {1, 12}, {2, 6}, {3, 4}, {4, 3}, {5, 2}, {6, 2}, {7, 1}, {11, 1}, {12, 1},
}

// TestOutcomes holds outcomes and their means against all lists of r.
func TestOutcomes(t *testing.T) {
	fair, unfair, refusals, bothSides := 0, 0, 0, 0
	for _, f := range allFormats() {
		r := rulers()[f]
		for i, pair := range r.startsAndAdds() {
			// All pairs for some bits, and all bits for some pairs.
			for j, c := range bitsAndSteps {
				if f != example && (i+j)%7 != 0 {
					continue
				}
				s := r.allSums(pair, c[0], c[1])
				checkOutcomes(t, s, pair, c[1])
				refusals += oneIf(!s.fits)
				fair += oneIf(s.fits && s.fair && c[1] > 0)
				unfair += oneIf(s.fits && !s.fair)
				bothSides += oneIf(s.isOnBothSides())
			}
		}
	}
	if fair < 100 || unfair < 100 || refusals < 100 || bothSides < 10 {
		t.Errorf("there are only %d fair sums, %d others, %d that are refused, and %d with both signs", fair, unfair, refusals, bothSides)
	}
}

func (s *allSums) isOnBothSides() bool {
	patterns, _ := s.told()
	return s.fits && s.r.values[patterns[0]] < 0 && s.r.values[patterns[len(patterns)-1]] > 0
}

func checkOutcomes(t *testing.T, s *allSums, pair [2]int, steps int) {
	t.Helper()
	x := randomArguments{start: pair[0], add: pair[1], bits: s.bits, steps: steps}
	patterns, counts, ok := impl.OutcomesOf(s.r.f, pair[0], pair[1], s.bits, steps)
	mean, hasMean := impl.MeanOfSum(s.r.f, pair[0], pair[1], s.bits, steps)
	if !s.fits {
		wantResults(t, "OutcomesOf", s.r.f, x, append(patterns, counts...), ok, nil, false)
		wantResults(t, "MeanOfSum", s.r.f, x, []int{mean.Num, mean.Exp}, hasMean, []int{0, 0}, false)
		return
	}
	wantPatterns, wantCounts := s.told()
	wantResults(t, "OutcomesOf", s.r.f, x, patterns, ok, wantPatterns, true)
	wantResults(t, "the counts of OutcomesOf", s.r.f, x, counts, ok, wantCounts, true)
	exact := s.mean(steps)
	wantDyadic(t, "MeanOfSum", []any{s.r.f, x}, mean, hasMean, dyadic(t, exact))
	if s.fair {
		straight := s.r.values[pair[0]] + float64(steps)*s.r.values[pair[1]]
		if new(big.Rat).SetFloat64(straight).Cmp(exact) != 0 {
			t.Fatalf("the mean of %v and %v should be %v, but is %v", s.r.f, x, straight, exact)
		}
	}
}

// TestOutcomesAreCounted: lists of r lead through RandomSum to what OutcomesOf counts.
func TestOutcomesAreCounted(t *testing.T) {
	for _, f := range []impl.Format{example, smallest, largest} {
		for _, pair := range rulers()[f].startsAndAdds() {
			patterns, counts, ok := impl.OutcomesOf(f, pair[0], pair[1], 2, 3)
			if !ok {
				continue
			}
			left := map[int]int{}
			for i, p := range patterns {
				left[p] = counts[i]
			}
			for _, choices := range allLists([]int{0, 1, 2, 3}, 3) {
				p, ok := impl.RandomSum(f, pair[0], pair[1], 2, choices)
				if !ok {
					t.Fatalf("RandomSum of %v, %v and %v fails", f, pair, choices)
				}
				left[p]--
			}
			for p, count := range left {
				if count != 0 {
					t.Fatalf("OutcomesOf %v and %v counts %d too many for %d", f, pair, count, p)
				}
			}
		}
	}
}

// TestListsAreLimited: all bits and all steps, in and out of what is allowed together.
func TestListsAreLimited(t *testing.T) {
	for bits := -1; bits <= impl.MaxBits+1; bits++ {
		for steps := -1; steps <= 101; steps++ {
			fine := bits >= 0 && bits <= 12 && steps >= 0 && steps <= 100 && bits*steps <= 12
			x := randomArguments{start: sixteen, bits: bits, steps: steps}
			var wantCounts, wantMean []int
			if fine {
				wantCounts, wantMean = []int{sixteen, 1 << (bits * steps)}, []int{1, 4}
			}
			got, ok := randomCall(t, "OutcomesOf")(example, x)
			wantResults(t, "OutcomesOf", example, x, got, ok, wantCounts, fine)
			got, ok = randomCall(t, "MeanOfSum")(example, x)
			wantResults(t, "MeanOfSum", example, x, got, ok, wantMean, fine)
		}
	}
}

// TestSumsAreTheSameAgain: the workers of calls at the same time change no result.
func TestSumsAreTheSameAgain(t *testing.T) {
	x := randomArguments{start: 247, add: 90, bits: 1, steps: 12}
	want, ok := randomCall(t, "OutcomesOf")(example, x)
	if !ok {
		t.Fatal("OutcomesOf fails")
	}
	wantMean, _ := randomCall(t, "MeanOfSum")(example, x)
	refused := randomArguments{start: greatest, add: one, bits: 1, steps: 12}
	var callers sync.WaitGroup
	for range 8 {
		callers.Go(func() {
			for range 50 {
				got, ok := randomCall(t, "OutcomesOf")(example, x)
				mean, hasMean := randomCall(t, "MeanOfSum")(example, x)
				none, isNone := randomCall(t, "OutcomesOf")(example, refused)
				if !ok || !hasMean || isNone || !slices.Equal(got, want) || !slices.Equal(mean, wantMean) || none != nil {
					t.Errorf("got %v, %v, %v, then %v, %v and %v, %v", want, wantMean, got, ok, mean, none, isNone)
				}
			}
		})
	}
	callers.Wait()
}
