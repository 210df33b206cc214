package tests

import (
	"testing"

	"loop.example/g01178/impl"
)

func checkConvert(t *testing.T, f, g impl.Format, p int) {
	t.Helper()
	for _, mode := range modes {
		got, ok := impl.ConvertOf(f, g, p, mode)
		if want := convert(f, g, p, mode); !ok || got != want {
			t.Fatalf("ConvertOf of %v, %v and %d in mode %d: got %d, %v, want %d", f, g, p, mode, got, ok, want)
		}
	}
}

func TestConvertOf(t *testing.T) {
	for _, f := range allFormats() {
		for _, g := range allFormats() {
			for _, p := range patternsFor(f) {
				checkConvert(t, f, g, p)
			}
		}
	}
}

// TestConvertOfLargest goes over all patterns of the format that holds all
// others, so over all values and midpoints of most of them.
func TestConvertOfLargest(t *testing.T) {
	for _, g := range fewFormats() {
		for _, p := range allPatterns(largest) {
			checkConvert(t, largest, g, p)
		}
	}
}

// TestConvertOfToItself: only no numbers change.
func TestConvertOfToItself(t *testing.T) {
	for _, f := range allFormats() {
		for _, p := range allPatterns(f) {
			got, ok := impl.ConvertOf(f, f, p, impl.ModeOdd)
			wantResult(t, "ConvertOf to itself", f, impl.ModeOdd, got, ok, kept(f, p), p)
		}
	}
}

// TestHeldFormatsLoseNothing: what is converted to a format that holds the own
// one and back again is the same pattern, in all modes.
func TestHeldFormatsLoseNothing(t *testing.T) {
	for _, f := range allFormats() {
		for _, g := range allFormats() {
			if is, _ := impl.HoldsFormat(f, g); !is {
				continue
			}
			for _, p := range patternsFor(f) {
				checkThereAndBack(t, f, g, p)
			}
		}
	}
}

func checkThereAndBack(t *testing.T, f, g impl.Format, p int) {
	t.Helper()
	want := kept(f, p)
	for _, mode := range modes {
		there, ok := impl.ConvertOf(f, g, p, mode)
		back, fine := impl.ConvertOf(g, f, there, mode)
		if !ok || !fine || back != want {
			t.Fatalf("%d of %v there and back through %v in mode %d: got %d, %v, %v, want %d", p, f, g, mode, back, ok, fine, want)
		}
	}
}

func TestHoldsFormat(t *testing.T) {
	for _, f := range allFormats() {
		for _, g := range allFormats() {
			got, ok := impl.HoldsFormat(f, g)
			if want := holds(f, g); !ok || got != want {
				t.Fatalf("HoldsFormat of %v and %v: got %v, %v, want %v", f, g, got, ok, want)
			}
		}
	}
}

// TestLeastHolding: there is always a format that holds both, as the largest
// one holds all. So LeastHolding never fails for formats.
func TestLeastHolding(t *testing.T) {
	isHeld := map[[2]impl.Format]bool{}
	for _, f := range allFormats() {
		for _, g := range allFormats() {
			isHeld[[2]impl.Format{f, g}] = holds(f, g)
		}
	}
	for _, f := range allFormats() {
		if !isHeld[[2]impl.Format{f, largest}] {
			t.Fatalf("%v is not held by the largest format", f)
		}
		for _, g := range allFormats() {
			want := leastOf(func(h impl.Format) bool {
				return isHeld[[2]impl.Format{f, h}] && isHeld[[2]impl.Format{g, h}]
			})
			got, ok := impl.LeastHolding(f, g)
			if !ok || got != want {
				t.Fatalf("LeastHolding of %v and %v: got %v, %v, want %v", f, g, got, ok, want)
			}
		}
	}
}

// leastOf returns the format of the least width, and of these with the least
// Exponent, that is one of those.
func leastOf(isOne func(h impl.Format) bool) impl.Format {
	least := impl.Format{}
	for _, h := range allFormats() {
		isLess := least == impl.Format{} || widthOf(h) < widthOf(least) ||
			widthOf(h) == widthOf(least) && h.Exponent < least.Exponent
		if isLess && isOne(h) {
			least = h
		}
	}
	return least
}

func TestCountLostAndCountShared(t *testing.T) {
	common := map[[2]impl.Format]int{}
	for _, f := range allFormats() {
		for _, g := range allFormats() {
			got, ok := impl.CountLost(f, g)
			if want := lost(f, g); !ok || got != want {
				t.Fatalf("CountLost of %v and %v: got %d, %v, want %d", f, g, got, ok, want)
			}
			got, ok = impl.CountShared(f, g)
			if want := shared(f, g); !ok || got != want {
				t.Fatalf("CountShared of %v and %v: got %d, %v, want %d", f, g, got, ok, want)
			}
			common[[2]impl.Format{f, g}] = got
		}
	}
	for pair, n := range common {
		if other := common[[2]impl.Format{pair[1], pair[0]}]; other != n {
			t.Errorf("CountShared of %v: got %d, and %d the other way round", pair, n, other)
		}
	}
}
