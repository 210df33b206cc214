package tests

import (
	"testing"

	"loop.example/g01178/impl"
)

// forDecimals calls check for decimals of all formats: those at the bounds, and
// those around values and midpoints, the one behind the greatest value too.
func forDecimals(check func(r ruler, d decimal)) {
	for _, f := range allFormats() {
		r := rulers()[f]
		for _, d := range decimalsAtBounds() {
			check(r, d)
		}
		for _, p := range r.lookedAt() {
			for _, size := range []float64{r.sizes[p], (r.sizes[p] + r.sizes[p+1]) / 2} {
				for _, d := range decimalsNear(size) {
					check(r, d)
				}
			}
		}
	}
}

func checkRead(t *testing.T, r ruler, d decimal) {
	t.Helper()
	for _, mode := range modes {
		got, ok := impl.ReadDecimal(r.f, d.digits, d.ten, mode)
		wantResult(t, "ReadDecimal", r.f, mode, got, ok, r.read(d, mode), d.digits, d.ten)
	}
}

func TestReadDecimal(t *testing.T) {
	forDecimals(func(r ruler, d decimal) { checkRead(t, r, d) })
}

// TestReadDecimalOfExactOnes: what has at most MaxPlaces places is read as it is,
// whatever the mode.
func TestReadDecimalOfExactOnes(t *testing.T) {
	for _, f := range allFormats() {
		r := rulers()[f]
		for p := range len(r.sizes) - 1 {
			d := decimalAt(r.sizes[p], impl.MaxPlaces)
			if d.compare(r.sizes[p]) != 0 {
				continue
			}
			for _, mode := range modes {
				got, ok := impl.ReadDecimal(f, d.digits, d.ten, mode)
				wantResult(t, "ReadDecimal", f, mode, got, ok, p, d.digits, d.ten)
			}
		}
	}
}

func TestReadDecimalAtEdges(t *testing.T) {
	for _, c := range []struct {
		d    decimal
		want byMode
	}{
		{decimal{0, 0}, always(plusZero)},
		{decimal{0, 14}, always(plusZero)},
		{decimal{0, -14}, always(plusZero)},
		{decimal{1, 0}, always(one)},
		{decimal{100000, -5}, always(one)},
		{decimal{16, 0}, always(sixteen)},
		{decimal{17, 0}, byMode{sixteen, eighteen, sixteen, eighteen, sixteen, eighteen}},
		{decimal{17001, -3}, byMode{eighteen, eighteen, sixteen, eighteen, sixteen, eighteen}},
		{decimal{16999, -3}, byMode{sixteen, sixteen, sixteen, eighteen, sixteen, eighteen}},
		{decimal{19, 0}, byMode{twenty, twenty, eighteen, twenty, eighteen, eighteen}},
		// Less than the half of the unit, and a little more.
		{decimal{1, -14}, byMode{plusZero, plusZero, plusZero, unit, plusZero, unit}},
		{decimal{999999, -14}, byMode{plusZero, plusZero, plusZero, unit, plusZero, unit}},
		{decimal{976562, -9}, byMode{plusZero, plusZero, plusZero, unit, plusZero, unit}},
		{decimal{976563, -9}, byMode{unit, unit, plusZero, unit, plusZero, unit}},
		{decimal{2, -3}, byMode{unit, unit, unit, 2, unit, unit}},
		// 240 and 248, the middle of it and what is behind it.
		{decimal{24, 1}, always(greatest)},
		{decimal{247999, -3}, byMode{greatest, greatest, greatest, infinite, greatest, greatest}},
		{decimal{248, 0}, byMode{infinite, infinite, greatest, infinite, greatest, greatest}},
		{decimal{1, 14}, byMode{infinite, infinite, greatest, infinite, greatest, greatest}},
		{decimal{999999, 14}, byMode{infinite, infinite, greatest, infinite, greatest, greatest}},
		{decimal{999999, 0}, byMode{infinite, infinite, greatest, infinite, greatest, greatest}},
	} {
		for i, mode := range modes {
			got, ok := impl.ReadDecimal(example, c.d.digits, c.d.ten, mode)
			wantResult(t, "ReadDecimal", example, mode, got, ok, c.want[i], c.d.digits, c.d.ten)
		}
	}
}

func checkRoundsTo(t *testing.T, r ruler, d decimal, p int) {
	t.Helper()
	got, ok := impl.RoundsTo(r.f, d.digits, d.ten, p)
	if want := r.read(d, impl.ModeEven) == p%r.signBit(); !ok || got != want {
		t.Fatalf("RoundsTo of %v, %v and %d: got %v, %v, want %v", r.f, d, p, got, ok, want)
	}
}

// TestRoundsTo asks for the pattern to which a decimal is rounded, for those
// beside it, for those with the other sign, and for all that are not finite.
func TestRoundsTo(t *testing.T) {
	forDecimals(func(r ruler, d decimal) {
		read := r.read(d, impl.ModeEven)
		for _, p := range []int{max(read-1, 0), read, read + 1, 0, len(r.sizes) - 1, len(r.sizes), r.signBit() - 1} {
			checkRoundsTo(t, r, d, p)
			checkRoundsTo(t, r, d, p+r.signBit())
		}
	})
}

func TestRoundsToAtEdges(t *testing.T) {
	for _, c := range []struct {
		d    decimal
		p    int
		want bool
	}{
		{decimal{17, 0}, sixteen, true},
		{decimal{17, 0}, minusSixteen, true},
		{decimal{17, 0}, eighteen, false},
		{decimal{0, 0}, plusZero, true},
		{decimal{0, -14}, minusZero, true},
		{decimal{1, -14}, plusZero, true},
		{decimal{1, -14}, minusZero, true},
		{decimal{1, -14}, unit, false},
		{decimal{2, -3}, unit, true},
		{decimal{2, -3}, minusUnit, true},
		{decimal{248, 0}, infinite, true},
		{decimal{248, 0}, minusInfinite, true},
		{decimal{999999, 14}, minusInfinite, true},
		{decimal{247999, -3}, infinite, false},
		{decimal{247999, -3}, minusGreatest, true},
		{decimal{248, 0}, greatest, false},
		{decimal{248, 0}, noNumber, false},
		{decimal{248, 0}, minusNoNumber, false},
		{decimal{0, 0}, quiet, false},
		{decimal{0, 0}, infinite, false},
	} {
		got, ok := impl.RoundsTo(example, c.d.digits, c.d.ten, c.p)
		if !ok || got != c.want {
			t.Errorf("RoundsTo of %v and %d: got %v, %v, want %v", c.d, c.p, got, ok, c.want)
		}
	}
}

func checkCompareDecimal(t *testing.T, r ruler, p int, d decimal) {
	t.Helper()
	for _, signed := range []int{p, p + r.signBit()} {
		got, ok := impl.CompareDecimal(r.f, signed, d.digits, d.ten)
		wantResult(t, "CompareDecimal", r.f, impl.ModeEven, got, ok, -d.compare(r.sizes[p]), signed, d.digits, d.ten)
	}
}

func TestCompareDecimal(t *testing.T) {
	for _, f := range allFormats() {
		r := rulers()[f]
		for _, p := range r.lookedAt() {
			for _, d := range decimalsNear(r.sizes[p]) {
				checkCompareDecimal(t, r, p, d)
			}
		}
		for _, p := range []int{0, 1, 2, 1 << f.Fraction, r.signBit() / 2, len(r.sizes) - 2} {
			for _, d := range decimalsAtBounds() {
				checkCompareDecimal(t, r, p, d)
			}
		}
	}
}

func TestCompareDecimalAtEdges(t *testing.T) {
	for _, c := range []struct {
		f    impl.Format
		p    int
		d    decimal
		want int
	}{
		{example, plusZero, decimal{0, 0}, 0},
		{example, minusZero, decimal{0, 0}, 0},
		{example, minusZero, decimal{0, -14}, 0},
		{example, plusZero, decimal{1, -14}, -1},
		{example, minusZero, decimal{1, -14}, -1},
		{example, unit, decimal{0, 14}, 1},
		{example, minusUnit, decimal{0, 0}, 1},
		{example, unit, decimal{195312, -8}, 1},
		{example, unit, decimal{195313, -8}, -1},
		{example, 2, decimal{390625, -8}, 0},
		{example, one, decimal{1, 0}, 0},
		{example, minusOne, decimal{1, 0}, 0},
		{example, minusOne, decimal{2, 0}, -1},
		{example, one, decimal{999999, -6}, 1},
		{example, one, decimal{100001, -5}, -1},
		{example, 63, decimal{1875, -3}, 0},
		{example, 63, decimal{19, -1}, -1},
		{example, greatest, decimal{24, 1}, 0},
		{example, minusGreatest, decimal{240001, -3}, -1},
		{example, greatest, decimal{1, 14}, -1},
		{largest, 31<<10 - 1, decimal{65504, 0}, 0},
		{largest, 31<<10 - 1, decimal{655041, -1}, -1},
		{largest, 31<<10 - 1, decimal{655039, -1}, 1},
		{largest, 31<<10 - 1, decimal{999999, 14}, -1},
		{largest, 1, decimal{596046, -13}, 1},
		{largest, 1, decimal{596047, -13}, -1},
		{largest, 1, decimal{999999, -14}, 1},
	} {
		got, ok := impl.CompareDecimal(c.f, c.p, c.d.digits, c.d.ten)
		wantResult(t, "CompareDecimal", c.f, impl.ModeEven, got, ok, c.want, c.p, c.d.digits, c.d.ten)
	}
}

func wantDecimal(t *testing.T, what string, f impl.Format, arguments []int, digits, ten int, ok bool, want decimal) {
	t.Helper()
	if got := (decimal{digits, ten}); !ok || got != want {
		t.Fatalf("%s of %v and %v: got %v, %v, want %v", what, f, arguments, got, ok, want)
	}
}

func TestNearestDecimal(t *testing.T) {
	for _, f := range allFormats() {
		r := rulers()[f]
		for p := range len(r.sizes) - 1 {
			for i := range impl.MaxPlaces {
				want := decimalAt(r.sizes[p], i+1)
				for _, signed := range []int{p, p + r.signBit()} {
					digits, ten, ok := impl.NearestDecimal(f, signed, i+1)
					wantDecimal(t, "NearestDecimal", f, []int{signed, i + 1}, digits, ten, ok, want)
				}
			}
		}
	}
}

// TestNoneIsNearer: with just so many places, the decimals before and behind the
// nearest one are no nearer to the value.
func TestNoneIsNearer(t *testing.T) {
	for _, f := range narrowFormats() {
		r := rulers()[f]
		for p := 1; p < len(r.sizes)-1; p++ {
			for places := 1; places <= impl.MaxPlaces; places++ {
				digits, ten, _ := impl.NearestDecimal(f, p, places)
				nearest := decimal{digits, ten}
				if nearest.places() != places {
					t.Fatalf("NearestDecimal of %v, %d and %d: got %v", f, p, places, nearest)
				}
				for _, d := range []decimal{{digits - 1, ten}, {10*digits - 1, ten - 1}, {digits + 1, ten}} {
					if d.places() == places && d.distance(r.sizes[p]).Cmp(nearest.distance(r.sizes[p])) < 0 {
						t.Fatalf("NearestDecimal of %v, %d and %d: got %v, but %v is nearer", f, p, places, nearest, d)
					}
				}
			}
		}
	}
}

func TestNearestDecimalAtEdges(t *testing.T) {
	quarters := impl.Format{Exponent: 2, Fraction: 2}
	for _, c := range []struct {
		f      impl.Format
		value  float64
		places int
		want   decimal
	}{
		{example, 0, 1, decimal{0, 0}},
		{example, 0, 6, decimal{0, 0}},
		{example, 1, 1, decimal{1, 0}},
		{example, 1, 6, decimal{100000, -5}},
		{example, 240, 1, decimal{2, 2}},
		{example, 240, 2, decimal{24, 1}},
		{example, 240, 6, decimal{240000, -3}},
		{example, 1.875, 1, decimal{2, 0}},
		{example, 1.875, 2, decimal{19, -1}},
		{example, 1.875, 4, decimal{1875, -3}},
		{example, 1.875, 6, decimal{187500, -5}},
		{example, 0.001953125, 1, decimal{2, -3}},
		{example, 0.001953125, 6, decimal{195312, -8}},
		// Of two as near the one with even digits.
		{example, 1.5, 1, decimal{2, 0}},
		{example, 2.5, 1, decimal{2, 0}},
		{example, 3.5, 1, decimal{4, 0}},
		{example, 15, 1, decimal{2, 1}},
		{example, 1.125, 3, decimal{112, -2}},
		{example, 1.375, 3, decimal{138, -2}},
		{quarters, 0.25, 1, decimal{2, -1}},
		{quarters, 0.75, 1, decimal{8, -1}},
		{quarters, 1.25, 2, decimal{12, -1}},
		{quarters, 1.75, 2, decimal{18, -1}},
		// One place more by rounding.
		{example, 96, 1, decimal{1, 2}},
		{example, 0.9375, 1, decimal{9, -1}},
		{largest, 9.5, 1, decimal{1, 1}},
		{largest, 95, 1, decimal{1, 2}},
		{largest, 950, 1, decimal{1, 3}},
		{largest, 99.9375, 1, decimal{1, 2}},
		{largest, 99.9375, 2, decimal{10, 1}},
		{largest, 99.9375, 3, decimal{999, -1}},
		{largest, 999.5, 3, decimal{100, 1}},
		{largest, 998.5, 3, decimal{998, 0}},
		{largest, 65504, 1, decimal{7, 4}},
		{largest, 65504, 6, decimal{655040, -1}},
		{largest, 1.0 / (1 << 24), 1, decimal{6, -8}},
		{largest, 1.0 / (1 << 24), 6, decimal{596046, -13}},
	} {
		p := finiteWith(c.f, c.value)
		for _, signed := range []int{p, p + 1<<(widthOf(c.f)-1)} {
			digits, ten, ok := impl.NearestDecimal(c.f, signed, c.places)
			wantDecimal(t, "NearestDecimal", c.f, []int{signed, c.places}, digits, ten, ok, c.want)
		}
	}
}
