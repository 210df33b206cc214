package tests

import (
	"math"
	"slices"
	"testing"

	"loop.example/g01178/impl"
)

// notFinite are infinite patterns and no numbers.
func notFinite(f impl.Format) []int {
	r := rulers()[f]
	return slices.DeleteFunc(allPatterns(f), r.finite)
}

// refused are patterns that no function of chapter 5 takes.
func refused(f impl.Format) []int {
	return append(notPatterns(f), notFinite(f)...)
}

func TestExactStepsRequireFormats(t *testing.T) {
	for _, f := range notFormats() {
		for _, c := range stepsOfTwo {
			for _, p := range usual {
				got, ok := c.call(f, p, p)
				wantResults(t, c.what, f, p, got, ok, nil, false)
			}
		}
		for _, c := range sumsOfLists {
			for _, list := range [][]int{nil, {}, {plusZero}, {one}, {one, one}, {one, minusOne, unit}} {
				got, ok := c.call(f, list)
				wantResults(t, c.what, f, list, got, ok, nil, false)
			}
		}
		// growByFirst has no list for an empty one.
		got, ok := impl.GrowExpansion(f, nil, 0)
		wantResults(t, "GrowExpansion", f, "nothing", got, ok, nil, false)
	}
}

func TestExactStepsRequireFinitePatterns(t *testing.T) {
	for _, f := range allFormats() {
		for _, p := range refused(f) {
			for _, c := range stepsOfTwo {
				for _, list := range [][]int{{p, 0}, {0, p}, {1, p}, {p, 1}, {p, p}} {
					got, ok := c.call(f, list[0], list[1])
					wantResults(t, c.what, f, list, got, ok, nil, false)
				}
			}
			for _, c := range sumsOfLists {
				for _, list := range [][]int{{p}, {p, 0}, {0, p}, {0, 0, p, 0, 1}, {p, 1, 1, 1, 1}} {
					got, ok := c.call(f, list)
					wantResults(t, c.what, f, list, got, ok, nil, false)
				}
			}
		}
	}
}

// TestListsHaveLimits: lists of the greatest length succeed with each pattern
// that all functions take, and fail with one in any place that they do not take.
func TestListsHaveLimits(t *testing.T) {
	for _, f := range allFormats() {
		for _, c := range sumsOfLists {
			list := slices.Repeat([]int{0}, c.most)
			if _, ok := c.call(f, list); !ok {
				t.Errorf("%s of %v and %v fails", c.what, f, list)
			}
			for place := range list {
				for _, p := range []int{-1, 1 << widthOf(f), notFinite(f)[0], notFinite(f)[1]} {
					wrong := slices.Clone(list)
					wrong[place] = p
					got, ok := c.call(f, wrong)
					wantResults(t, c.what, f, wrong, got, ok, nil, false)
				}
			}
			for _, more := range []int{1, 2, 7, 100, 10000} {
				for _, p := range []int{0, 1} {
					longer := slices.Repeat([]int{p}, c.most+more)
					got, ok := c.call(f, longer)
					wantResults(t, c.what, f, len(longer), got, ok, nil, false)
				}
			}
		}
	}
}

// TestListsStay: no list is changed, nor what lies around it, and no result
// shares memory with it.
func TestListsStay(t *testing.T) {
	for _, f := range allFormats() {
		for _, list := range someLists(f) {
			for _, c := range sumsOfLists {
				around := slices.Concat([]int{-7}, list, []int{-8, -9, 1, 1})
				before := slices.Clone(around)
				inside := around[1 : 1+len(list)]
				first, ok := c.call(f, inside)
				if !slices.Equal(around, before) {
					t.Fatalf("%s of %v and %v leaves %v", c.what, f, list, around)
				}
				kept := slices.Clone(first)
				overwrite(first)
				second, fine := c.call(f, inside)
				if !slices.Equal(around, before) || !slices.Equal(second, kept) || ok != fine {
					t.Fatalf("%s of %v and %v shares memory: got %v, then %v", c.what, f, list, kept, second)
				}
			}
		}
	}
}

// overwrite changes a result, and the room behind it.
func overwrite(list []int) {
	list = list[:cap(list)]
	for i := range list {
		list[i] = -5
	}
}

func TestSixStepsAreNew(t *testing.T) {
	first, _ := impl.SixSteps(example, sixteen, one)
	kept := slices.Clone(first)
	overwrite(first)
	second, ok := impl.SixSteps(example, sixteen, one)
	wantResults(t, "SixSteps", example, "the same again", second, ok, kept, true)
}

// TestExactStepsAreTotal: a panic in one of the calls fails the test, and so
// does a result beside false.
func TestExactStepsAreTotal(t *testing.T) {
	wild := []int{math.MinInt, math.MinInt + 1, -129, -1, 0, 1, 2, 3, 5, 10, 56, 119, 120, 121, 128, 248, 255, 256, 65535, 1 << 40, math.MaxInt}
	for _, a := range wild {
		for _, b := range wild {
			for _, f := range []impl.Format{example, smallest, largest, {Exponent: a, Fraction: b}, {Exponent: 4, Fraction: a}, {Exponent: b, Fraction: 3}} {
				checkExactStepsAreTotal(t, f, a, b)
			}
		}
	}
}

func checkExactStepsAreTotal(t *testing.T, f impl.Format, a, b int) {
	t.Helper()
	for _, c := range stepsOfTwo {
		if got, ok := c.call(f, a, b); !ok && got != nil {
			t.Fatalf("%s of %v, %d and %d fails with %v", c.what, f, a, b, got)
		}
	}
	for _, c := range sumsOfLists {
		for _, list := range [][]int{{a}, {a, b}, {b, a, b}, {a, 1, b, 1, a}, slices.Repeat([]int{a, b}, 6), slices.Repeat([]int{a, b}, 7)} {
			if got, ok := c.call(f, list); !ok && got != nil {
				t.Fatalf("%s of %v and %v fails with %v", c.what, f, list, got)
			}
		}
	}
}
