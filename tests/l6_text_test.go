package tests

import (
	"math"
	"regexp"
	"strconv"
	"strings"
	"testing"

	"loop.example/g01178/impl"
)

func wantText(t *testing.T, what string, f impl.Format, argument any, got string, ok bool, want string) {
	t.Helper()
	if !ok || got != want {
		t.Fatalf("%s of %v and %v: got %q, %v, want %q", what, f, argument, got, ok, want)
	}
}

func wantNoText(t *testing.T, what string, f impl.Format, argument any, got string, ok bool) {
	t.Helper()
	if ok || got != "" {
		t.Fatalf("%s of %v and %v: got %q, %v, want a failure", what, f, argument, got, ok)
	}
}

func TestExactTexts(t *testing.T) {
	for _, f := range allFormats() {
		r := rulers()[f]
		for _, p := range finitePatterns(f) {
			text, ok := impl.ExactText(f, p)
			want := exactText(r.values[p])
			wantText(t, "ExactText", f, p, text, ok, want)
			_, behind, _ := strings.Cut(want, ".")
			places, ok := impl.PlacesOf(f, p)
			wantInt(t, "PlacesOf", f, p, places, ok, len(behind))
			text, ok = impl.HalfText(f, p)
			wantText(t, "HalfText", f, p, text, ok, exactText(r.values[p]/2))
		}
	}
}

func TestExactTextAtEdges(t *testing.T) {
	for _, c := range []struct {
		f     impl.Format
		p     int
		exact string
		half  string
	}{
		{example, plusZero, "0", "0"},
		{example, minusZero, "-0", "-0"},
		{example, unit, "0.001953125", "0.0009765625"},
		{example, minusUnit, "-0.001953125", "-0.0009765625"},
		{example, 2, "0.00390625", "0.001953125"},
		{example, 7, "0.013671875", "0.0068359375"},
		{example, 8, "0.015625", "0.0078125"},
		{example, one, "1", "0.5"},
		{example, minusOne, "-1", "-0.5"},
		{example, 57, "1.125", "0.5625"},
		{example, 63, "1.875", "0.9375"},
		{example, two, "2", "1"},
		{example, fifteen, "15", "7.5"},
		{example, sixteen, "16", "8"},
		{example, greatest, "240", "120"},
		{example, minusGreatest, "-240", "-120"},
		{smallest, 1, "0.5", "0.25"},
		{smallest, 5, "3", "1.5"},
		{largest, 1, "0.000000059604644775390625", "0.0000000298023223876953125"},
		{largest, 1<<15 + 1023, "-0.000060975551605224609375", "-0.0000304877758026123046875"},
		{largest, 31<<10 - 1, "65504", "32752"},
	} {
		text, ok := impl.ExactText(c.f, c.p)
		wantText(t, "ExactText", c.f, c.p, text, ok, c.exact)
		text, ok = impl.HalfText(c.f, c.p)
		wantText(t, "HalfText", c.f, c.p, text, ok, c.half)
	}
}

func TestPlacesOfAtEdges(t *testing.T) {
	for _, c := range []struct {
		f       impl.Format
		p, want int
	}{
		{example, plusZero, 0},
		{example, minusZero, 0},
		{example, unit, 9},
		{example, minusUnit, 9},
		{example, 2, 8},
		{example, 7, 9},
		{example, one, 0},
		{example, 63, 3},
		{example, sixteen, 0},
		{example, minusGreatest, 0},
		{largest, 1, 24},
		{largest, 1 << 15, 0},
		{largest, 31<<10 - 1, 0},
	} {
		got, ok := impl.PlacesOf(c.f, c.p)
		wantInt(t, "PlacesOf", c.f, c.p, got, ok, c.want)
	}
}

// wantShortestText follows the document's words.
func wantShortestText(f impl.Format, p int) string {
	x := rulers()[f].values[p]
	sign := strings.Repeat("-", signOf(x))
	switch {
	case math.IsNaN(x):
		return "nan"
	case math.IsInf(x, 0):
		return sign + "inf"
	}
	return sign + shortests()[f][p%(1<<(widthOf(f)-1))].text()
}

// TestShortestTextsAreReadBack: all of them, those of zeros with both signs, of
// infinite patterns and of no numbers too.
func TestShortestTextsAreReadBack(t *testing.T) {
	for _, f := range allFormats() {
		for p := range 1 << widthOf(f) {
			text, ok := impl.ShortestText(f, p)
			wantText(t, "ShortestText", f, p, text, ok, wantShortestText(f, p))
			back, ok := impl.ParseShort(f, text)
			if want := kept(f, p); !ok || back != want {
				t.Fatalf("ParseShort of %v and %q: got %d, %v, want %d", f, text, back, ok, want)
			}
		}
	}
}

// TestNoneShorterIsReadBack: of the decimals with fewer places those around the
// value are the nearest ones.
func TestNoneShorterIsReadBack(t *testing.T) {
	for _, f := range allFormats() {
		r := rulers()[f]
		for p := 1; p < len(r.sizes)-1; p++ {
			digits, _, _ := impl.ShortestOf(f, p)
			for _, d := range decimalsNear(r.sizes[p]) {
				if d.digits == 0 || d.places() >= len(strconv.Itoa(digits)) {
					continue
				}
				if back, ok := impl.ParseShort(f, d.text()); !ok || back == p {
					t.Fatalf("ParseShort of %v and %q: got %d, %v, but ShortestOf it has the digits %d", f, d.text(), back, ok, digits)
				}
			}
		}
	}
}

func TestShortestTextAtEdges(t *testing.T) {
	for _, c := range []struct {
		p    int
		want string
	}{
		{plusZero, "0e0"},
		{minusZero, "-0e0"},
		{unit, "2e-3"},
		{minusUnit, "-2e-3"},
		{one, "1e0"},
		{minusOne, "-1e0"},
		{63, "19e-1"},
		{63 + 128, "-19e-1"},
		{sixteen, "16e0"},
		{84, "12e0"},
		{95, "3e1"},
		{96, "32e0"},
		{98, "4e1"},
		{greatest, "24e1"},
		{minusGreatest, "-24e1"},
		{infinite, "inf"},
		{minusInfinite, "-inf"},
		{noNumber, "nan"},
		{quiet, "nan"},
		{minusNoNumber, "nan"},
	} {
		got, ok := impl.ShortestText(example, c.p)
		wantText(t, "ShortestText", example, c.p, got, ok, c.want)
	}
}

func TestParseShortAtEdges(t *testing.T) {
	for _, c := range []struct {
		text string
		want int
	}{
		{"0e0", plusZero}, {"-0e0", minusZero}, {"0e14", plusZero}, {"-0e-14", minusZero},
		{"1e0", one}, {"-1e0", minusOne}, {"10e-1", one}, {"100000e-5", one}, {"17e0", sixteen}, {"170000e-4", sixteen},
		{"2e-3", unit}, {"-2e-3", minusUnit}, {"1e-3", unit},
		// A half of the unit is 9765625e-10, and nothing as near has six places.
		{"976562e-9", plusZero}, {"976563e-9", unit}, {"-976562e-9", minusZero},
		{"1e-14", plusZero}, {"-1e-14", minusZero}, {"999999e-14", plusZero},
		{"240e0", greatest}, {"24e1", greatest}, {"-24e1", minusGreatest},
		{"247999e-3", greatest}, {"248e0", infinite}, {"-248e0", minusInfinite}, {"-247999e-3", minusGreatest},
		{"1e14", infinite}, {"999999e14", infinite}, {"-999999e14", minusInfinite},
		{"inf", infinite}, {"-inf", minusInfinite}, {"nan", quiet},
	} {
		got, ok := impl.ParseShort(example, c.text)
		if !ok || got != c.want {
			t.Errorf("ParseShort of %q: got %d, %v, want %d", c.text, got, ok, c.want)
		}
	}
}

func TestParseShortFails(t *testing.T) {
	for _, s := range []string{
		"", "-", "e", "-e", "1", "-1", "1e", "-1e", "e1", "-e1", "e-1", "1e-", "-1e-", "1-1", "--", "-e-",
		"+1e0", "1e+0", "+0e0", "--1e0", "---1e0", "-+1e0", "1e--1", "1-e0", "1e0-", "1-0e0", "1e1-0",
		"00e0", "01e0", "-01e0", "000001e0", "1e00", "1e01", "1e-01", "1e-0", "-1e-0", "0e-0", "1e014", "1e-014",
		"1000000e0", "1000000e-6", "-1000000e0", "99999999999999999999e0", "9223372036854775808e0", "18446744073709551617e0",
		"1e15", "1e-15", "0e15", "0e-15", "1e100", "1e-100", "1e9223372036854775808", "1e18446744073709551616",
		"1E0", "1.0e0", "1.e0", ".1e0", "1,0e0", "1_0e0", "1e1_0", "0x1e0", "1e0x1", "1e0e0", "1ee0", "1e0.5", "1f0",
		" 1e0", "1e0 ", "1 e0", "1e 0", "- 1e0", "1e- 1", "1e0\n", "\n1e0", "1e0\x00", "\x001e0", "1e0;", "a1e0", "1e0a",
		"１e0", "1e０", "−1e0", "\xff", "1e0\xff", "٣e0",
		"Inf", "INF", "in", "i", "inff", "infinity", "+inf", "--inf", "inf ", " inf", "-in", "- inf", "inf-", "inf0", "infe0", "inf1e0", "-inf1e0", "1e0inf", "infinf", "infnan",
		"NaN", "NAN", "na", "n", "nann", "-nan", "+nan", "nan ", " nan", "nan0", "nan1e0", "1e0nan", "naninf",
		strings.Repeat("1", 100000), strings.Repeat("-", 100000), strings.Repeat("0", 100000) + "e0", "1e" + strings.Repeat("0", 100000), strings.Repeat("1e0", 1000),
	} {
		got, ok := impl.ParseShort(example, s)
		wantNone(t, "ParseShort", example, s, got, ok)
	}
}

// decimalText is what the document tells of texts of decimals, but for the range
// of ten.
var decimalText = regexp.MustCompile(`^(-?)(0|[1-9][0-9]{0,5})e(0|-?[1-9][0-9]?)$`)

// wantParsed follows the document's words.
func wantParsed(f impl.Format, s string) (int, bool) {
	r := rulers()[f]
	switch s {
	case "inf":
		return len(r.sizes) - 1, true
	case "-inf":
		return len(r.sizes) - 1 + r.signBit(), true
	case "nan":
		return quietOf(f), true
	}
	parts := decimalText.FindStringSubmatch(s)
	if parts == nil {
		return 0, false
	}
	digits, _ := strconv.Atoi(parts[2])
	ten, _ := strconv.Atoi(parts[3])
	if ten < -14 || ten > 14 {
		return 0, false
	}
	return r.read(decimal{digits, ten}, impl.ModeEven) + len(parts[1])*r.signBit(), true
}

func checkParsed(t *testing.T, f impl.Format, s string) {
	t.Helper()
	got, ok := impl.ParseShort(f, s)
	want, fine := wantParsed(f, s)
	if got != want || ok != fine {
		t.Fatalf("ParseShort of %v and %q: got %d, %v, want %d, %v", f, s, got, ok, want, fine)
	}
}

// TestParseShortOfShortTexts goes through all texts of some bytes.
func TestParseShortOfShortTexts(t *testing.T) {
	texts := []string{""}
	for range 6 {
		for _, s := range texts {
			checkParsed(t, example, s)
		}
		var longer []string
		for _, s := range texts {
			for _, next := range []string{"-", "0", "1", "5", "e", "+", ".", "inf", "nan"} {
				longer = append(longer, s+next)
			}
		}
		texts = longer
	}
}

// TestParseShortOfChangedTexts puts, leaves out or changes one byte of texts.
func TestParseShortOfChangedTexts(t *testing.T) {
	bytes := "-+.0123456789eEinfan \x00\n\xff"
	for _, f := range []impl.Format{example, smallest, largest} {
		for _, s := range []string{"0e0", "-0e0", "1e0", "-12e-3", "999999e-14", "-999999e14", "100000e10", "65504e0", "inf", "-inf", "nan"} {
			checkParsed(t, f, s)
			for i := range len(s) + 1 {
				for _, b := range []byte(bytes) {
					checkParsed(t, f, s[:i]+string([]byte{b})+s[i:])
					if i < len(s) {
						checkParsed(t, f, s[:i]+string([]byte{b})+s[i+1:])
						checkParsed(t, f, s[:i]+s[i+1:])
					}
				}
			}
		}
	}
}

// TestParseShortReadsDecimals: with both signs, all that ReadDecimal reads.
func TestParseShortReadsDecimals(t *testing.T) {
	for _, f := range allFormats() {
		for _, d := range decimalsAtBounds() {
			checkParsed(t, f, d.text())
			checkParsed(t, f, "-"+d.text())
		}
	}
}
