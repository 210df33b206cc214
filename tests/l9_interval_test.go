package tests

import (
	"math"
	"math/big"
	"math/rand/v2"
	"slices"
	"sync"
	"testing"

	"loop.example/g01178/impl"
)

// TestIntervalsAreTold: pairs of all patterns that a test may look at, and of numbers
// just out of range.
func TestIntervalsAreTold(t *testing.T) {
	for _, f := range allFormats() {
		r := rulers()[f]
		list := append(patternsFor(f), -1, len(r.values), len(r.values)+1)
		for _, low := range list {
			for _, high := range list {
				x := interval(low, high)
				is, ok := impl.IsInterval(f, x)
				if !ok || is != r.isInterval(x) {
					t.Fatalf("IsInterval of %v and %v: got %v, %v", f, x, is, ok)
				}
			}
		}
	}
}

func TestPointIntervals(t *testing.T) {
	for _, f := range allFormats() {
		for _, p := range finitePatterns(f) {
			got, ok := impl.PointInterval(f, p)
			wantInterval(t, "PointInterval", f, p, got, ok, rulers()[f].ends(p, p), true)
			n, ok := impl.CountWithin(f, got)
			wantInt(t, "CountWithin", f, p, n, ok, 1)
		}
	}
}

func TestAroundDyadics(t *testing.T) {
	for _, f := range allFormats() {
		s, r := scaleOf(f), rulers()[f]
		for _, d := range s.numbers(t) {
			number := exactly(d)
			want := r.ends(s.round(number, impl.ModeDown), s.round(number, impl.ModeUp))
			got, ok := impl.AroundDyadic(f, d)
			wantInterval(t, "AroundDyadic", f, d, got, ok, want, true)
			checkLeast(t, r, got, number)
		}
	}
}

// checkLeast: an interval has a number, and would not have it with the next ends within.
func checkLeast(t *testing.T, r ruler, x impl.Interval, number *big.Rat) {
	t.Helper()
	up, _ := impl.NextUp(r.f, x.Low)
	down, _ := impl.NextDown(r.f, x.High)
	if !r.isInterval(x) || !r.holds(x, number) {
		t.Fatalf("%v of %v has no %v", x, r.f, number)
	}
	if x.Low != x.High && (r.holds(interval(up, x.High), number) || r.holds(interval(x.Low, down), number)) {
		t.Fatalf("%v of %v is not the least one that has %v", x, r.f, number)
	}
}

func TestEnclosedPatterns(t *testing.T) {
	for _, f := range allFormats() {
		r := rulers()[f]
		list := patternsFor(f)
		for _, x := range someIntervals(f) {
			for _, p := range list {
				got, ok := impl.Encloses(f, x, p)
				want := r.finite(p) && r.encloses(x, r.values[p])
				wantResults(t, "Encloses", f, []any{x, p}, []int{oneIf(got)}, ok, []int{oneIf(want)}, r.finite(p))
			}
		}
	}
}

// forIntervals calls check for pairs of intervals of all formats.
func forIntervals(check func(r ruler, x, y impl.Interval)) {
	for _, f := range allFormats() {
		list := someIntervals(f)
		for _, x := range list {
			for _, y := range list {
				check(rulers()[f], x, y)
			}
		}
	}
}

func TestHullsAndMeets(t *testing.T) {
	meets, apart := 0, 0
	forIntervals(func(r ruler, x, y impl.Interval) {
		pair := []impl.Interval{x, y}
		is, ok := impl.IsWithin(r.f, x, y)
		wantResults(t, "IsWithin", r.f, pair, []int{oneIf(is)}, ok, []int{oneIf(r.isWithin(x, y))}, true)
		hull, ok := impl.HullOf(r.f, x, y)
		wantInterval(t, "HullOf", r.f, pair, hull, ok, r.hull(x, y), true)
		meet, ok := impl.MeetOf(r.f, x, y)
		want, fine := r.meet(x, y)
		wantInterval(t, "MeetOf", r.f, pair, meet, ok, want, fine)
		meets += oneIf(fine)
		apart += oneIf(!fine)
	})
	if meets < 1000 || apart < 1000 {
		t.Errorf("only %d intervals meet, and %d do not", meets, apart)
	}
}

func TestSumsOfIntervals(t *testing.T) {
	forIntervals(func(r ruler, x, y impl.Interval) {
		pair := []impl.Interval{x, y}
		sum, ok := impl.PlusInterval(r.f, x, y)
		wantInterval(t, "PlusInterval", r.f, pair, sum, ok, r.plusInterval(x, y), true)
		difference, ok := impl.LessInterval(r.f, x, y)
		wantInterval(t, "LessInterval", r.f, pair, difference, ok, r.lessInterval(x, y), true)
	})
}

func TestProductsOfIntervals(t *testing.T) {
	forIntervals(func(r ruler, x, y impl.Interval) {
		pair := []impl.Interval{x, y}
		product, ok := impl.TimesInterval(r.f, x, y)
		wantInterval(t, "TimesInterval", r.f, pair, product, ok, r.timesInterval(x, y), true)
		quotient, ok := impl.DivideInterval(r.f, x, y)
		want, fine := r.overInterval(x, y)
		wantInterval(t, "DivideInterval", r.f, pair, quotient, ok, want, fine)
	})
}

// TestRootsOfIntervals has all patterns that are ends of one, too.
func TestRootsOfIntervals(t *testing.T) {
	for _, f := range allFormats() {
		r := rulers()[f]
		list := someIntervals(f)
		for _, p := range finitePatterns(f) {
			list = append(list, r.ends(p, p))
		}
		for _, x := range list {
			want, fine := r.rootInterval(x)
			got, ok := impl.RootInterval(f, x)
			wantInterval(t, "RootInterval", f, x, got, ok, want, fine)
		}
	}
}

// TestResultsAreEnclosed: sums, differences, products, quotients and roots of values of
// two intervals are in the intervals of these.
func TestResultsAreEnclosed(t *testing.T) {
	count := 0
	forIntervals(func(r ruler, x, y impl.Interval) {
		count++
		if r.f != smallest && count%11 != 0 {
			return
		}
		sum, _ := impl.PlusInterval(r.f, x, y)
		difference, _ := impl.LessInterval(r.f, x, y)
		product, _ := impl.TimesInterval(r.f, x, y)
		quotient, hasQuotient := impl.DivideInterval(r.f, x, y)
		for _, a := range r.valuesOf(r.inside(x)) {
			for _, b := range r.valuesOf(r.inside(y)) {
				// As ends are float64 as well, a quotient is in an interval if the
				// float64 to which it is rounded is.
				if !r.encloses(sum, a+b) || !r.encloses(difference, a-b) || !r.encloses(product, a*b) || hasQuotient && !r.encloses(quotient, a/b) {
					t.Fatalf("%v, %v and %v: the results of %v and %v are not all in %v, %v, %v and %v", r.f, x, y, a, b, sum, difference, product, quotient)
				}
			}
		}
	})
}

func TestRootsAreEnclosed(t *testing.T) {
	for _, f := range allFormats() {
		r := rulers()[f]
		for _, x := range someIntervals(f) {
			root, ok := impl.RootInterval(f, x)
			for _, a := range r.valuesOf(r.inside(x)) {
				if ok && !r.encloses(root, math.Sqrt(a)) {
					t.Fatalf("RootInterval of %v and %v is %v, and has no root of %v", f, x, root, a)
				}
			}
		}
	}
}

// TestPartsHavePartsOfResults: what is made of parts of intervals is within what is made
// of these.
func TestPartsHavePartsOfResults(t *testing.T) {
	f := smallest
	list := someIntervals(f)
	for i, x := range list {
		for j, part := range list {
			if is, _ := impl.IsWithin(f, part, x); !is {
				continue
			}
			y := list[(i*7+j)%len(list)]
			for _, name := range []string{"HullOf", "PlusInterval", "LessInterval", "TimesInterval", "DivideInterval", "RootInterval", "PolyInterval"} {
				call := intervalCall(t, name)
				less, ok := call(f, intervalArguments{x: part, y: y, coefficients: []int{1, 9, 2, 3}})
				more, fine := call(f, intervalArguments{x: x, y: y, coefficients: []int{1, 9, 2, 3}})
				if !ok || !fine {
					continue
				}
				if is, ok := impl.IsWithin(f, interval(less[0], less[1]), interval(more[0], more[1])); !is || !ok {
					t.Fatalf("%s of %v, %v and %v is %v, and not within that of %v, %v", name, f, part, y, less, x, more)
				}
			}
		}
	}
}

// somePolys are lists of coefficients of all lengths, the same ones each time.
func somePolys(f impl.Format) [][]int {
	random := rand.New(rand.NewPCG(99, uint64(16*f.Exponent+f.Fraction)))
	finite := finitePatterns(f)
	var lists [][]int
	for i := range 12 {
		for length := range impl.MaxPoly + 1 {
			list := []int{}
			for range length {
				p := finite[random.IntN(len(finite))]
				if i%3 == 0 {
					// Sizes around 1, so that not all results are without end.
					p = max(p%(1<<f.Fraction)+(1<<(f.Exponent-1)-2)<<f.Fraction, 0) + (1<<(widthOf(f)-1))*random.IntN(2)
				}
				list = append(list, p)
			}
			lists = append(lists, list)
		}
	}
	return lists
}

func TestPolynomials(t *testing.T) {
	finite, infinite := 0, 0
	for _, f := range allFormats() {
		r := rulers()[f]
		for i, coefficients := range somePolys(f) {
			for j, x := range someIntervals(f) {
				if (i+j)%3 != 0 {
					continue
				}
				got, ok := impl.PolyInterval(f, coefficients, x)
				wantInterval(t, "PolyInterval", f, []any{coefficients, x}, got, ok, r.polyInterval(coefficients, x), true)
				checkPoly(t, r, coefficients, x, got)
				hasEnds := r.finite(got.Low) && r.finite(got.High)
				finite += oneIf(hasEnds)
				infinite += oneIf(!hasEnds)
			}
		}
	}
	if finite < 1000 || infinite < 1000 {
		t.Errorf("only %d polynomials have finite ends, and %d have others", finite, infinite)
	}
}

// checkPoly: the exact values of a polynomial at values of an interval are in its result.
func checkPoly(t *testing.T, r ruler, coefficients []int, x, result impl.Interval) {
	t.Helper()
	for i, p := range r.inside(x) {
		if i > 3 {
			return
		}
		at := new(big.Rat).SetFloat64(r.values[p])
		value := new(big.Rat)
		for j := len(coefficients) - 1; j >= 0; j-- {
			value.Mul(value, at)
			value.Add(value, new(big.Rat).SetFloat64(r.values[coefficients[j]]))
		}
		if !r.holds(result, value) {
			t.Fatalf("PolyInterval of %v, %v and %v is %v, and has no %v", r.f, coefficients, x, result, value)
		}
	}
}

func TestCountsAndTexts(t *testing.T) {
	for _, f := range allFormats() {
		r := rulers()[f]
		for i, x := range someIntervals(f) {
			text, ok := impl.IntervalText(f, x)
			wantText(t, "IntervalText", f, x, text, ok, "["+wantShortestText(f, x.Low)+","+wantShortestText(f, x.High)+"]")
			if widthOf(f) <= 9 || i%5 == 0 {
				n, ok := impl.CountWithin(f, x)
				wantResults(t, "CountWithin", f, x, []int{n}, ok, []int{r.countWithin(x)}, true)
			}
		}
	}
}

// TestIntervalsAreTheSameAgain: also of calls at the same time.
func TestIntervalsAreTheSameAgain(t *testing.T) {
	for _, f := range []impl.Format{example, smallest, largest} {
		list := someIntervals(f)
		var callers sync.WaitGroup
		for i, x := range list {
			arguments := intervalArguments{x: x, y: list[(7*i+3)%len(list)], p: i % 12, d: num(2*i+1, -3), coefficients: []int{1, i % 12, 2}}
			callers.Go(func() { checkSameAgain(t, f, arguments) })
		}
		callers.Wait()
	}
}

func checkSameAgain(t *testing.T, f impl.Format, x intervalArguments) {
	for _, c := range intervalCalls {
		want, fine := c.call(f, x)
		for range 20 {
			got, ok := c.call(f, x)
			if ok != fine || !slices.Equal(got, want) {
				t.Errorf("%s of %v and %v: got %v, %v, then %v, %v", c.what, f, x, want, fine, got, ok)
			}
		}
	}
}
