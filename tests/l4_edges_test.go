package tests

import (
	"testing"

	"loop.example/g01178/impl"
)

// brain has a wider range than the example, and one fraction bit less.
var brain = impl.Format{Exponent: 5, Fraction: 2}

// Patterns of that format.
const (
	brainLeastNormal = 4
	brainOne         = 60
	brainGreatest    = 123
	brainInfinite    = 124
	brainQuiet       = 126
	brainMinus       = 128
)

func TestConvertExample(t *testing.T) {
	for _, c := range []struct {
		f, g    impl.Format
		p, want int
	}{
		{example, brain, one, brainOne},
		{brain, example, brainOne, one},
		{largest, example, 16448, two},
	} {
		got, ok := impl.ConvertOf(c.f, c.g, c.p, impl.ModeEven)
		wantResult(t, "ConvertOf", c.f, impl.ModeEven, got, ok, c.want, c.p)
	}
	held, ok := impl.LeastHolding(example, brain)
	if want := (impl.Format{Exponent: 5, Fraction: 3}); !ok || held != want {
		t.Errorf("LeastHolding of the example: got %v, %v, want %v", held, ok, want)
	}
}

type conversion struct {
	p    int
	want byMode
}

func checkConversions(t *testing.T, f, g impl.Format, cases []conversion) {
	t.Helper()
	for _, c := range cases {
		for i, mode := range modes {
			got, ok := impl.ConvertOf(f, g, c.p, mode)
			wantResult(t, "ConvertOf", f, mode, got, ok, c.want[i], c.p)
		}
	}
}

func TestConversionsToWiderRange(t *testing.T) {
	const at16, at18 = 76, 77 // 16 and 20 there
	checkConversions(t, example, brain, []conversion{
		{plusZero, always(0)},
		{minusZero, always(brainMinus)},
		{infinite, always(brainInfinite)},
		{minusInfinite, always(brainInfinite + brainMinus)},
		{noNumber, always(brainQuiet)},
		{quiet, always(brainQuiet)},
		{minusNoNumber, always(brainQuiet)},
		{one, always(brainOne)},
		{minusOne, always(brainOne + brainMinus)},
		// Subnormal here, normal there: 2^-9, 3 * 2^-9, 7 * 2^-9.
		{unit, always(6 << 2)},
		{minusUnit, always(6<<2 + brainMinus)},
		{3, always(7<<2 | 2)},
		{7, always(8<<2 | 3)},
		// Ties: 18 is between 16 and 20, 22 between 20 and 24.
		{sixteen, always(at16)},
		{eighteen, byMode{at16, at18, at16, at18, at16, at18}},
		{91, byMode{at18 + 1, at18 + 1, at18, at18 + 1, at18, at18}},
		{eighteen + 128, byMode{at16 + brainMinus, at18 + brainMinus, at16 + brainMinus, at16 + brainMinus, at18 + brainMinus, at18 + brainMinus}},
		// 240 is between 224 and 256.
		{greatest, byMode{88 + 4, 88 + 4, 88 + 3, 88 + 4, 88 + 3, 88 + 3}},
	})
}

func TestConversionsToNarrowerRange(t *testing.T) {
	beyond := byMode{infinite, infinite, greatest, infinite, greatest, greatest}
	minusBeyond := byMode{minusInfinite, minusInfinite, minusGreatest, minusGreatest, minusInfinite, minusGreatest}
	checkConversions(t, brain, example, []conversion{
		{0, always(plusZero)},
		{brainMinus, always(minusZero)},
		{brainInfinite, always(infinite)},
		{brainInfinite + brainMinus, always(minusInfinite)},
		{brainInfinite + 1, always(quiet)},
		{brainQuiet, always(quiet)},
		{255, always(quiet)},
		{brainGreatest, beyond},
		{brainGreatest + brainMinus, minusBeyond},
		// 224 has a place, 256 is what counts as the value behind 240.
		{91, always(greatest - 1)},
		{92, beyond},
		{92 + brainMinus, minusBeyond},
		// Normal there, subnormal here: 2^-9, 3 * 2^-9, 7 * 2^-9.
		{6 << 2, always(unit)},
		{7<<2 | 2, always(3)},
		{8<<2 | 3, always(7)},
		// 5 * 2^-10 is a tie between 2 and 3 units, 7 * 2^-10 between 3 and 4.
		{7<<2 | 1, byMode{2, 3, 2, 3, 2, 3}},
		{7<<2 | 3, byMode{4, 4, 3, 4, 3, 3}},
		// Half of the unit, right below it, and right above it.
		{5 << 2, byMode{plusZero, unit, plusZero, unit, plusZero, unit}},
		{5<<2 - 1, tinyByMode},
		{5<<2 + 1, byMode{unit, unit, plusZero, unit, plusZero, unit}},
		{brainLeastNormal, tinyByMode},
		{1, tinyByMode},
		{1 + brainMinus, minusTinyByMode},
	})
}

func TestConversionsOfTheLargest(t *testing.T) {
	checkConversions(t, largest, smallest, []conversion{
		{0, always(0)},
		{1 << 15, always(8)},
		{31 << 10, always(6)},
		{63 << 10, always(14)},
		{31<<10 | 1, always(7)},
		{1<<16 - 1, always(7)},
		{1, byMode{0, 0, 0, 1, 0, 1}},
		{1<<15 | 1, byMode{8, 8, 8, 8, 9, 9}},
		// 1 / 4, 3 / 4 and 5 / 2.
		{13 << 10, byMode{0, 1, 0, 1, 0, 1}},
		{14<<10 | 1<<9, byMode{2, 2, 1, 2, 1, 1}},
		{16<<10 | 1<<8, byMode{4, 5, 4, 5, 4, 5}},
		// 3 is the greatest value, 4 the one behind it.
		{16<<10 | 1<<9, always(5)},
		{16<<10 | 3<<8, byMode{6, 6, 5, 6, 5, 5}},
		{16<<10 | 3<<8 - 1, byMode{5, 5, 5, 6, 5, 5}},
		{31<<10 - 1, byMode{6, 6, 5, 6, 5, 5}},
		{63<<10 - 1, byMode{14, 14, 13, 13, 14, 13}},
	})
}

// TestThirdsAtEdges takes zeros, infinite patterns and no numbers through all
// kinds of thirds.
func TestThirdsAtEdges(t *testing.T) {
	for _, g := range allFormats() {
		for _, c := range []struct{ p, want int }{
			{plusZero, 0},
			{minusZero, brainMinus},
			{infinite, brainInfinite},
			{minusInfinite, brainInfinite + brainMinus},
			{noNumber, brainQuiet},
			{quiet, brainQuiet},
			{minusNoNumber, brainQuiet},
		} {
			for _, mode := range modes {
				got, ok := impl.ThroughThird(example, g, brain, c.p, mode)
				wantResult(t, "ThroughThird", g, mode, got, ok, c.want, c.p)
			}
			got, ok := impl.ThroughOdd(example, g, brain, c.p)
			wantResult(t, "ThroughOdd", g, impl.ModeEven, got, ok, c.want, c.p)
		}
	}
}

// TestThirdsThatAreTooNarrow: what is behind the greatest value of the third one
// or below its unit is lost by ThroughThird, and kept on its side by ThroughOdd.
func TestThirdsThatAreTooNarrow(t *testing.T) {
	for _, c := range []struct {
		p    int
		want byMode
		odd  int
	}{
		// 128 through the greatest value 3, and 2^-9 through the unit 1 / 2.
		{112, byMode{infinite, infinite, three, infinite, three, three}, three},
		{240, byMode{minusInfinite, minusInfinite, three + 128, three + 128, minusInfinite, three + 128}, three + 128},
		{unit, byMode{plusZero, plusZero, plusZero, 48, plusZero, 48}, 48},
		{minusUnit, byMode{minusZero, minusZero, minusZero, minusZero, 48 + 128, 48 + 128}, 48 + 128},
	} {
		for i, mode := range modes {
			got, ok := impl.ThroughThird(example, smallest, example, c.p, mode)
			wantResult(t, "ThroughThird", example, mode, got, ok, c.want[i], c.p)
		}
		got, ok := impl.ThroughOdd(example, smallest, example, c.p)
		wantResult(t, "ThroughOdd", example, impl.ModeEven, got, ok, c.odd, c.p)
	}
}

func TestPairsOfFormatsAtEdges(t *testing.T) {
	for _, c := range []struct {
		f, g         impl.Format
		held         bool
		lost, shared int
	}{
		{example, example, true, 0, 239},
		{example, brain, false, 112, 127},
		{brain, example, false, 120, 127},
		{example, largest, true, 0, 239},
		{largest, example, false, 63248, 239},
		{smallest, example, true, 0, 11},
		{example, smallest, false, 228, 11},
		{smallest, largest, true, 0, 11},
		// More in one of both fields alone.
		{smallest, impl.Format{Exponent: 2, Fraction: 10}, true, 0, 11},
		{impl.Format{Exponent: 4, Fraction: 1}, impl.Format{Exponent: 5, Fraction: 1}, true, 0, 59},
		// The other one has the lesser unit, but not the greatest values: 256 and
		// more, two for each of eight exponent fields and both signs.
		{impl.Format{Exponent: 5, Fraction: 1}, impl.Format{Exponent: 4, Fraction: 10}, false, 32, 91},
	} {
		held, ok := impl.HoldsFormat(c.f, c.g)
		if !ok || held != c.held {
			t.Errorf("HoldsFormat of %v and %v: got %v, %v", c.f, c.g, held, ok)
		}
		lost, ok := impl.CountLost(c.f, c.g)
		if !ok || lost != c.lost {
			t.Errorf("CountLost of %v and %v: got %d, %v, want %d", c.f, c.g, lost, ok, c.lost)
		}
		shared, ok := impl.CountShared(c.f, c.g)
		if !ok || shared != c.shared {
			t.Errorf("CountShared of %v and %v: got %d, %v, want %d", c.f, c.g, shared, ok, c.shared)
		}
	}
}
