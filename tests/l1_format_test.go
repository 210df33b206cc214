package tests

import (
	"math"
	"slices"
	"strings"
	"testing"

	"loop.example/g01178/impl"
)

type ofPattern func(impl.Format, int) (int, bool)

func TestFormatExample(t *testing.T) {
	width, ok := impl.WidthOf(example)
	wantInt(t, "WidthOf", example, 0, width, ok, 8)
	bias, ok := impl.BiasOf(example)
	wantInt(t, "BiasOf", example, 0, bias, ok, 7)
	text, ok := impl.PatternText(example, 56)
	if text != "0.0111.000" || !ok {
		t.Errorf("PatternText: got %q, %v", text, ok)
	}
	greatest, ok := impl.GreatestOf(example)
	wantInt(t, "GreatestOf", example, 0, greatest, ok, 119)
	for _, c := range []struct {
		what string
		call ofPattern
		p    int
		want int
	}{
		{"UnitsOf", impl.UnitsOf, 56, 512},
		{"UnitsOf", impl.UnitsOf, 1, 1},
		{"UnitsOf", impl.UnitsOf, 119, 122880},
		{"UnitsOf", impl.UnitsOf, 128 + 119, -122880},
		{"KindOf", impl.KindOf, 127, 4},
		{"KindOf", impl.KindOf, 120, 3},
		{"NextDown", impl.NextDown, 0, 129},
	} {
		got, ok := c.call(example, c.p)
		wantInt(t, c.what, example, c.p, got, ok, c.want)
	}
}

func TestIsFormat(t *testing.T) {
	for exponent := -3; exponent <= 20; exponent++ {
		for fraction := -3; fraction <= 20; fraction++ {
			f := impl.Format{Exponent: exponent, Fraction: fraction}
			if got := impl.IsFormat(f); got != slices.Contains(allFormats(), f) {
				t.Errorf("IsFormat of %v: got %v", f, got)
			}
		}
	}
	for _, f := range notFormats() {
		if impl.IsFormat(f) {
			t.Errorf("IsFormat of %v: got true", f)
		}
	}
}

func TestWidthAndBias(t *testing.T) {
	biases := map[int]int{2: 1, 3: 3, 4: 7, 5: 15}
	for _, f := range allFormats() {
		width, ok := impl.WidthOf(f)
		wantInt(t, "WidthOf", f, 0, width, ok, 1+f.Exponent+f.Fraction)
		bias, ok := impl.BiasOf(f)
		wantInt(t, "BiasOf", f, 0, bias, ok, biases[f.Exponent])
	}
}

func TestFieldsAndPatternOf(t *testing.T) {
	for _, f := range allFormats() {
		for _, p := range allPatterns(f) {
			x := tell(f, p)
			sign, exponent, fraction, ok := impl.FieldsOf(f, p)
			if !ok || sign != x.sign || exponent != x.exponent || fraction != x.fraction {
				t.Fatalf("FieldsOf of %v and %d: got %d, %d, %d, %v", f, p, sign, exponent, fraction, ok)
			}
			got, ok := impl.PatternOf(f, sign, exponent, fraction)
			wantInt(t, "PatternOf", f, p, got, ok, p)
		}
	}
}

func TestPatternOfRefusesFields(t *testing.T) {
	for _, f := range allFormats() {
		for _, x := range [][3]int{
			{-1, 0, 0}, {2, 0, 0}, {math.MinInt, 0, 0}, {math.MaxInt, 0, 0},
			{0, -1, 0}, {0, 1 << f.Exponent, 0}, {1, math.MinInt, 0}, {1, math.MaxInt, 0},
			{0, 0, -1}, {0, 0, 1 << f.Fraction}, {1, 0, math.MinInt}, {1, 0, math.MaxInt},
			{0, 1, -(1 << f.Fraction)}, {0, -1, 1 << f.Fraction},
		} {
			got, ok := impl.PatternOf(f, x[0], x[1], x[2])
			wantNone(t, "PatternOf", f, x, got, ok)
		}
	}
}

func TestKindOf(t *testing.T) {
	for _, f := range allFormats() {
		counts := make([]int, 5)
		for _, p := range allPatterns(f) {
			want := tell(f, p).kind
			got, ok := impl.KindOf(f, p)
			wantInt(t, "KindOf", f, p, got, ok, want)
			counts[want]++
		}
		got, ok := impl.CountKinds(f)
		if !ok || !slices.Equal(got, counts) {
			t.Errorf("CountKinds of %v: got %v, %v, want %v", f, got, ok, counts)
		}
	}
}

func TestCountKindsIsNew(t *testing.T) {
	first, _ := impl.CountKinds(example)
	clear(first)
	second, ok := impl.CountKinds(example)
	if want := []int{2, 14, 224, 2, 14}; !ok || !slices.Equal(second, want) {
		t.Errorf("CountKinds: got %v, %v, want %v", second, ok, want)
	}
}

func TestUnitsOf(t *testing.T) {
	for _, f := range allFormats() {
		for _, p := range allPatterns(f) {
			x := tell(f, p)
			got, ok := impl.UnitsOf(f, p)
			if x.kind >= 3 {
				wantNone(t, "UnitsOf", f, p, got, ok)
				continue
			}
			wantInt(t, "UnitsOf", f, p, got, ok, x.units)
			if got < -impl.MaxUnits || got > impl.MaxUnits {
				t.Fatalf("UnitsOf of %v and %d: %d is no number of units", f, p, got)
			}
			back, ok := impl.PatternOfUnits(f, got)
			want := p
			if x.kind == 0 {
				want = 0
			}
			wantInt(t, "PatternOfUnits", f, got, back, ok, want)
		}
	}
}

func TestUnitsOfEnds(t *testing.T) {
	for _, c := range []struct {
		f    impl.Format
		p    int
		want int
	}{
		{smallest, 0, 0},
		{smallest, 8, 0},
		{smallest, 1, 1},
		{smallest, 2, 2},
		{smallest, 5, 6},
		{smallest, 13, -6},
		{largest, 0, 0},
		{largest, 32768, 0},
		{largest, 1023, 1023},
		{largest, 1024, 1024},
		{largest, 15360, 1 << 24},
		{largest, 31743, 2047 << 29},
		{largest, 64511, -2047 << 29},
	} {
		got, ok := impl.UnitsOf(c.f, c.p)
		wantInt(t, "UnitsOf", c.f, c.p, got, ok, c.want)
	}
}

// finiteOf returns the finite patterns with the sign 0 by their units.
func finiteOf(f impl.Format) map[int]int {
	byUnits := map[int]int{}
	for _, p := range allPatterns(f) {
		if x := tell(f, p); x.kind < 3 && x.sign == 0 {
			byUnits[x.units] = p
		}
	}
	return byUnits
}

func TestPatternOfUnitsRefuses(t *testing.T) {
	for _, f := range allFormats() {
		byUnits := finiteOf(f)
		for units := range byUnits {
			for _, u := range []int{units - 1, units + 1, 2*units + 1} {
				if _, is := byUnits[max(u, -u)]; is {
					continue
				}
				got, ok := impl.PatternOfUnits(f, u)
				wantNone(t, "PatternOfUnits", f, u, got, ok)
				got, ok = impl.PatternOfUnits(f, -u)
				wantNone(t, "PatternOfUnits", f, -u, got, ok)
			}
		}
		for _, u := range []int{impl.MaxUnits, -impl.MaxUnits, impl.MaxUnits + 1, -impl.MaxUnits - 1, 1 << 62, math.MaxInt, math.MinInt, math.MinInt + 1} {
			got, ok := impl.PatternOfUnits(f, u)
			wantNone(t, "PatternOfUnits", f, u, got, ok)
		}
	}
}

func TestNearestBelow(t *testing.T) {
	for _, f := range allFormats() {
		units := sortedUnits(f)
		byUnits := finiteOf(f)
		for i, u := range units {
			want := byUnits[u]
			next := impl.MaxUnits + 1
			if i+1 < len(units) {
				next = units[i+1]
			}
			for _, v := range []int{u, u + 1, (u + next) / 2, next - 1} {
				if v >= next {
					continue
				}
				got, ok := impl.NearestBelow(f, v)
				wantInt(t, "NearestBelow", f, v, got, ok, want)
			}
		}
		for _, u := range []int{-1, math.MinInt, impl.MaxUnits + 1, math.MaxInt} {
			got, ok := impl.NearestBelow(f, u)
			wantNone(t, "NearestBelow", f, u, got, ok)
		}
	}
}

func sortedUnits(f impl.Format) []int {
	var list []int
	for u := range finiteOf(f) {
		list = append(list, u)
	}
	slices.Sort(list)
	return list
}

func TestNearestBelowEnds(t *testing.T) {
	for _, f := range allFormats() {
		greatest, _ := impl.GreatestOf(f)
		got, ok := impl.NearestBelow(f, 0)
		wantInt(t, "NearestBelow", f, 0, got, ok, 0)
		got, ok = impl.NearestBelow(f, impl.MaxUnits)
		wantInt(t, "NearestBelow", f, impl.MaxUnits, got, ok, greatest)
	}
	// 2^41 - 1 has more places than a float32.
	got, ok := impl.NearestBelow(largest, impl.MaxUnits-1)
	wantInt(t, "NearestBelow", largest, impl.MaxUnits-1, got, ok, 31743)
	got, ok = impl.NearestBelow(largest, 2047<<29-1)
	wantInt(t, "NearestBelow", largest, 2047<<29-1, got, ok, 31742)
}

func TestNegateAndAbs(t *testing.T) {
	for _, f := range allFormats() {
		for _, p := range allPatterns(f) {
			x := tell(f, p)
			want, _ := impl.PatternOf(f, 1-x.sign, x.exponent, x.fraction)
			got, ok := impl.NegateOf(f, p)
			wantInt(t, "NegateOf", f, p, got, ok, want)
			want, _ = impl.PatternOf(f, 0, x.exponent, x.fraction)
			got, ok = impl.AbsOf(f, p)
			wantInt(t, "AbsOf", f, p, got, ok, want)
		}
	}
}

// numbersInOrder returns all patterns that are numbers, increasing, minus zero
// before zero.
func numbersInOrder(f impl.Format) []int {
	var list []int
	for _, p := range allPatterns(f) {
		if tell(f, p).kind != 4 {
			list = append(list, p)
		}
	}
	slices.SortFunc(list, func(a, b int) int {
		x, y := tell(f, a), tell(f, b)
		switch {
		case x.order() < y.order():
			return -1
		case x.order() > y.order():
			return 1
		}
		return y.sign - x.sign
	})
	return list
}

func TestNextUpAndDown(t *testing.T) {
	for _, f := range allFormats() {
		list := numbersInOrder(f)
		for i, p := range list {
			up, down := i+1, i-1
			if tell(f, p).kind == 0 {
				zero := slices.Index(list, 0)
				up, down = zero+1, zero-2
			}
			checkNext(t, "NextUp", impl.NextUp, f, p, list, up)
			checkNext(t, "NextDown", impl.NextDown, f, p, list, downFrom(f, p, list, down))
		}
	}
}

// downFrom: from the unit NextDown leads to the zero with the sign 0, as NextUp
// leads from the negative unit to that with the sign 1.
func downFrom(f impl.Format, p int, list []int, down int) int {
	if p == 1 {
		return slices.Index(list, 0)
	}
	return down
}

func checkNext(t *testing.T, what string, call ofPattern, f impl.Format, p int, list []int, at int) {
	t.Helper()
	got, ok := call(f, p)
	if at < 0 || at >= len(list) {
		wantNone(t, what, f, p, got, ok)
		return
	}
	wantInt(t, what, f, p, got, ok, list[at])
}

func TestNextEnds(t *testing.T) {
	for _, c := range []struct {
		what    string
		call    ofPattern
		f       impl.Format
		p, want int
	}{
		{"NextUp", impl.NextUp, example, 0, 1},
		{"NextUp", impl.NextUp, example, 128, 1},
		{"NextUp", impl.NextUp, example, 119, 120},
		{"NextUp", impl.NextUp, example, 248, 247},
		{"NextUp", impl.NextUp, example, 129, 128},
		{"NextUp", impl.NextUp, example, 7, 8},
		{"NextUp", impl.NextUp, example, 136, 135},
		{"NextDown", impl.NextDown, example, 128, 129},
		{"NextDown", impl.NextDown, example, 1, 0},
		{"NextDown", impl.NextDown, example, 120, 119},
		{"NextDown", impl.NextDown, example, 247, 248},
		{"NextUp", impl.NextUp, smallest, 5, 6},
		{"NextDown", impl.NextDown, largest, 31744, 31743},
	} {
		got, ok := c.call(c.f, c.p)
		wantInt(t, c.what, c.f, c.p, got, ok, c.want)
	}
}

func TestCompareAndOrderKey(t *testing.T) {
	for _, f := range narrowFormats() {
		for _, a := range allPatterns(f) {
			for _, b := range allPatterns(f) {
				checkCompare(t, f, a, b)
			}
		}
	}
	for _, f := range allFormats() {
		list := numbersInOrder(f)
		zero := slices.Index(list, 0)
		for i, p := range list {
			key, ok := impl.OrderKey(f, p)
			wantInt(t, "OrderKey", f, p, key, ok, i-zero)
			checkCompare(t, f, p, list[max(i-1, 0)])
			checkCompare(t, f, p, list[len(list)-1-i])
		}
	}
}

func checkCompare(t *testing.T, f impl.Format, a int, b int) {
	t.Helper()
	x, y := tell(f, a), tell(f, b)
	got, ok := impl.CompareOf(f, a, b)
	switch {
	case x.kind == 4 || y.kind == 4:
		wantNone(t, "CompareOf", f, [2]int{a, b}, got, ok)
	case x.order() < y.order():
		wantInt(t, "CompareOf", f, a, got, ok, -1)
	case x.order() > y.order():
		wantInt(t, "CompareOf", f, a, got, ok, 1)
	default:
		wantInt(t, "CompareOf", f, a, got, ok, 0)
	}
}

func TestOrderKeyTold(t *testing.T) {
	for _, c := range [][2]int{{0, 0}, {128, -1}, {1, 1}, {129, -2}, {120, 120}, {248, -121}, {56, 56}, {184, -57}} {
		got, ok := impl.OrderKey(example, c[0])
		wantInt(t, "OrderKey", example, c[0], got, ok, c[1])
	}
}

func TestNoNumbersHaveNoPlace(t *testing.T) {
	for _, f := range allFormats() {
		for _, p := range allPatterns(f) {
			if tell(f, p).kind != 4 {
				continue
			}
			for what, call := range map[string]ofPattern{
				"NextUp": impl.NextUp, "NextDown": impl.NextDown, "OrderKey": impl.OrderKey,
				"UnitsOf": impl.UnitsOf, "StepUnits": impl.StepUnits,
			} {
				got, ok := call(f, p)
				wantNone(t, what, f, p, got, ok)
			}
			got, ok := impl.CompareOf(f, p, p)
			wantNone(t, "CompareOf", f, p, got, ok)
		}
	}
}

func TestGreatestAndLeastNormal(t *testing.T) {
	for _, f := range allFormats() {
		greatest, least := 0, 0
		for _, p := range allPatterns(f) {
			x := tell(f, p)
			if x.kind < 3 && x.size > tell(f, greatest).size && x.sign == 0 {
				greatest = p
			}
			if x.kind == 2 && x.sign == 0 && (least == 0 || x.size < tell(f, least).size) {
				least = p
			}
		}
		got, ok := impl.GreatestOf(f)
		wantInt(t, "GreatestOf", f, 0, got, ok, greatest)
		got, ok = impl.LeastNormal(f)
		wantInt(t, "LeastNormal", f, 0, got, ok, least)
	}
}

func TestStepUnits(t *testing.T) {
	for _, f := range allFormats() {
		for _, p := range allPatterns(f) {
			x := tell(f, p)
			got, ok := impl.StepUnits(f, p)
			if x.kind >= 3 {
				wantNone(t, "StepUnits", f, p, got, ok)
				continue
			}
			unit := sizeOf(f, 0, 1)
			step := sizeOf(f, x.exponent, 1) - sizeOf(f, x.exponent, 0)
			wantInt(t, "StepUnits", f, p, got, ok, int(step/unit))
		}
	}
	for _, c := range [][2]int{{0, 1}, {128, 1}, {7, 1}, {8, 1}, {15, 1}, {16, 2}, {24, 4}, {119, 8192}, {247, 8192}} {
		got, ok := impl.StepUnits(example, c[0])
		wantInt(t, "StepUnits", example, c[0], got, ok, c[1])
	}
}

func TestPatternText(t *testing.T) {
	for _, f := range allFormats() {
		for _, p := range allPatterns(f) {
			want := tell(f, p).text
			got, ok := impl.PatternText(f, p)
			if !ok || got != want {
				t.Fatalf("PatternText of %v and %d: got %q, %v, want %q", f, p, got, ok, want)
			}
			back, ok := impl.ParsePattern(f, want)
			wantInt(t, "ParsePattern", f, p, back, ok, p)
		}
	}
}

func TestParsePatternRefuses(t *testing.T) {
	for _, s := range []string{
		"", ".", "..", "0", "0..", "0.0111", "0.0111.", "0.0111.00", "0.0111.0000", "0.011.0000", "0.01110.00",
		"00.111.000", ".00111.000", "0.0111000.", "0011100000", "0.01110000", "000111.000", "0.0111.002", "2.0111.000",
		"-.0111.000", "0.01/1.000", "0.01:1.000", "0.0111.00 ", " .0111.000", "0.0111.00\n", "0.0111.00\x00", "0.0111.00\xb1",
		"0.0111.000 ", " 0.0111.000", "0.0111.000\n", "0,0111,000", "0.0111.0é", "0.0111.٠", "0.....000", "...........", "0.0.11.000",
		"0.0111.+10", "0x0111.000", "0.0111x000", "0.0x11.000", "0.0_11.000", strings.Repeat("0", 10), strings.Repeat("0.", 100000),
	} {
		got, ok := impl.ParsePattern(example, s)
		wantNone(t, "ParsePattern", example, s, got, ok)
	}
}

func TestParsePatternOneByteWrong(t *testing.T) {
	for _, f := range []impl.Format{smallest, example, largest} {
		for _, p := range []int{0, 1, 1<<widthOf(f) - 1} {
			text := tell(f, p).text
			for i := range len(text) {
				checkOneByteWrong(t, f, text, i)
				got, ok := impl.ParsePattern(f, text[:i])
				wantNone(t, "ParsePattern", f, text[:i], got, ok)
				got, ok = impl.ParsePattern(f, text[:i]+"0"+text[i:])
				wantNone(t, "ParsePattern", f, text, got, ok)
			}
		}
	}
}

func checkOneByteWrong(t *testing.T, f impl.Format, text string, i int) {
	t.Helper()
	for b := range 256 {
		other := byte(b)
		isBit := text[i] != '.' && (other == '0' || other == '1')
		if other == text[i] || isBit {
			continue
		}
		s := text[:i] + string([]byte{other}) + text[i+1:]
		got, ok := impl.ParsePattern(f, s)
		wantNone(t, "ParsePattern", f, s, got, ok)
	}
}

func TestParsePatternOfOtherFormats(t *testing.T) {
	for _, f := range allFormats() {
		for _, g := range allFormats() {
			got, ok := impl.ParsePattern(g, tell(f, 1).text)
			if f == g {
				wantInt(t, "ParsePattern", g, 1, got, ok, 1)
			} else {
				wantNone(t, "ParsePattern", g, tell(f, 1).text, got, ok)
			}
		}
	}
}
