package tests

import (
	"testing"

	"loop.example/g01178/impl"
)

func TestThroughThird(t *testing.T) {
	forTriples(fewFormats(), func(f, g, h impl.Format) {
		for _, p := range patternsFor(f) {
			for _, mode := range modes {
				got, ok := impl.ThroughThird(f, g, h, p, mode)
				want := convert(g, h, convert(f, g, p, mode), mode)
				if !ok || got != want {
					t.Fatalf("ThroughThird of %v, %v, %v and %d in mode %d: got %d, %v, want %d", f, g, h, p, mode, got, ok, want)
				}
			}
		}
	})
}

func TestThroughOdd(t *testing.T) {
	forTriples(fewFormats(), func(f, g, h impl.Format) {
		for _, p := range patternsFor(f) {
			got, ok := impl.ThroughOdd(f, g, h, p)
			want := convert(g, h, convert(f, g, p, impl.ModeOdd), impl.ModeEven)
			if !ok || got != want {
				t.Fatalf("ThroughOdd of %v, %v, %v and %d: got %d, %v, want %d", f, g, h, p, got, ok, want)
			}
		}
	})
}

// tripleFormats are narrow enough to look at all patterns, and with them those
// that have ties of others between their values.
func tripleFormats() []impl.Format {
	list := fewFormats()
	for _, f := range allFormats() {
		if widthOf(f) <= 6 {
			list = append(list, f)
		}
	}
	return list
}

// firstDouble goes by the definition, and returns -1 if there is none.
func firstDouble(f, g, h impl.Format) int {
	for _, p := range allPatterns(f) {
		between := convert(f, g, p, impl.ModeEven)
		if convert(g, h, between, impl.ModeEven) != convert(f, h, p, impl.ModeEven) {
			return p
		}
	}
	return -1
}

func TestFirstDouble(t *testing.T) {
	var some, none int
	forTriples(tripleFormats(), func(f, g, h impl.Format) {
		if f == largest && widthOf(g) > 8 {
			return
		}
		got, ok := impl.FirstDouble(f, g, h)
		want := firstDouble(f, g, h)
		if want < 0 {
			none++
			wantNone(t, "FirstDouble", f, [2]impl.Format{g, h}, got, ok)
			return
		}
		some++
		if !ok || got != want {
			t.Fatalf("FirstDouble of %v, %v and %v: got %d, %v, want %d", f, g, h, got, ok, want)
		}
	})
	if some == 0 || none == 0 {
		t.Errorf("%d triples have a first pattern, %d have none", some, none)
	}
}

// TestFirstDoubleWhereThereIsNone: nothing is rounded on the way to a format
// that holds the own one, or there is no way.
func TestFirstDoubleWhereThereIsNone(t *testing.T) {
	for _, f := range fewFormats() {
		for _, h := range fewFormats() {
			for _, g := range []impl.Format{f, largest} {
				got, ok := impl.FirstDouble(f, g, h)
				wantNone(t, "FirstDouble", f, [2]impl.Format{g, h}, got, ok)
			}
			got, ok := impl.FirstDouble(f, h, h)
			wantNone(t, "FirstDouble", f, [2]impl.Format{h, h}, got, ok)
		}
	}
}

func TestIsHarmless(t *testing.T) {
	for _, g := range allFormats() {
		for _, h := range allFormats() {
			got, ok := impl.IsHarmless(g, h)
			want := g.Fraction-h.Fraction >= 2 && g.Exponent-h.Exponent >= 1
			if !ok || got != want {
				t.Fatalf("IsHarmless of %v and %v: got %v, %v, want %v", g, h, got, ok, want)
			}
		}
	}
}

// TestHarmlessThirds: the way through a harmless format in ModeOdd changes
// nothing, whatever is converted.
func TestHarmlessThirds(t *testing.T) {
	for _, g := range allFormats() {
		for _, h := range allFormats() {
			if is, _ := impl.IsHarmless(g, h); !is {
				continue
			}
			for _, f := range allFormats() {
				checkHarmless(t, f, g, h, patternsFor(f))
			}
		}
	}
	// All patterns, with the least that harmless formats have more than others.
	for _, h := range []impl.Format{smallest, example, {Exponent: 2, Fraction: 8}, {Exponent: 4, Fraction: 8}, {Exponent: 3, Fraction: 1}} {
		g := impl.Format{Exponent: h.Exponent + 1, Fraction: h.Fraction + 2}
		checkHarmless(t, largest, g, h, allPatterns(largest))
	}
}

func checkHarmless(t *testing.T, f, g, h impl.Format, patterns []int) {
	t.Helper()
	for _, p := range patterns {
		odd, ok := impl.ThroughOdd(f, g, h, p)
		once, fine := impl.ConvertOf(f, h, p, impl.ModeEven)
		if !ok || !fine || odd != once {
			t.Fatalf("ThroughOdd of %v, %v, %v and %d: got %d, %v, and %d, %v at once", f, g, h, p, odd, ok, once, fine)
		}
	}
}

// TestThirdThatChangesTheResult has 2 + 1 / 8 + 1 / 512, which is more than the
// midpoint of 2 and 2.25. With 5 fraction bits it becomes that midpoint in
// ModeEven, but not in ModeOdd. With 4, which is one less than a harmless format
// has, it becomes the midpoint in ModeOdd, too.
func TestThirdThatChangesTheResult(t *testing.T) {
	wide, narrow := impl.Format{Exponent: 5, Fraction: 5}, impl.Format{Exponent: 5, Fraction: 4}
	for _, sign := range []int{0, 1} {
		p := 1<<14 | 1<<6 | 1 | sign<<15
		low, high := two|sign<<7, two+1|sign<<7
		once, ok := impl.ConvertOf(largest, example, p, impl.ModeEven)
		wantResult(t, "ConvertOf", largest, impl.ModeEven, once, ok, high, p)
		twice, ok := impl.ThroughThird(largest, wide, example, p, impl.ModeEven)
		wantResult(t, "ThroughThird", largest, impl.ModeEven, twice, ok, low, p)
		odd, ok := impl.ThroughOdd(largest, wide, example, p)
		wantResult(t, "ThroughOdd", largest, impl.ModeEven, odd, ok, high, p)
		odd, ok = impl.ThroughOdd(largest, narrow, example, p)
		wantResult(t, "ThroughOdd", largest, impl.ModeEven, odd, ok, low, p)
	}
	for g, want := range map[impl.Format]bool{
		wide:                       true,
		narrow:                     false,
		{Exponent: 4, Fraction: 5}: false,
		{Exponent: 3, Fraction: 8}: false,
		example:                    false,
	} {
		if got, ok := impl.IsHarmless(g, example); !ok || got != want {
			t.Errorf("IsHarmless of %v: got %v, %v, want %v", g, got, ok, want)
		}
	}
}

func TestFirstDoubleAtEdges(t *testing.T) {
	for _, c := range []struct {
		f, g, h impl.Format
		want    int
	}{
		// 2^-10 + 2^-20 becomes 2^-10, the midpoint of 0 and the unit of the example.
		{largest, impl.Format{Exponent: 5, Fraction: 5}, example, 5<<10 | 1},
		// 1 / 4 + 1 / 32 becomes 1 / 4, the midpoint of 0 and the unit of the smallest one.
		{example, impl.Format{Exponent: 4, Fraction: 2}, smallest, 5<<3 | 1},
		// The unit becomes a zero on the way.
		{example, smallest, example, unit},
		{example, impl.Format{Exponent: 3, Fraction: 4}, impl.Format{Exponent: 5, Fraction: 2}, unit},
		{impl.Format{Exponent: 5, Fraction: 2}, example, impl.Format{Exponent: 5, Fraction: 2}, 1},
		// The unit becomes a zero at once, twice of it only on the way.
		{impl.Format{Exponent: 5, Fraction: 2}, example, impl.Format{Exponent: 5, Fraction: 1}, 2},
	} {
		got, ok := impl.FirstDouble(c.f, c.g, c.h)
		if !ok || got != c.want {
			t.Errorf("FirstDouble of %v, %v and %v: got %d, %v, want %d", c.f, c.g, c.h, got, ok, c.want)
		}
	}
	// With one fraction bit less each time, ties to even change nothing.
	got, ok := impl.FirstDouble(example, impl.Format{Exponent: 5, Fraction: 2}, impl.Format{Exponent: 4, Fraction: 1})
	wantNone(t, "FirstDouble", example, "less each time", got, ok)
}
