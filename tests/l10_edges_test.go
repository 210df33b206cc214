package tests

import (
	"strconv"
	"strings"
	"testing"

	"loop.example/g01178/impl"
)

// lineEdge is a line on a desk of the format with 4 and 3, in ModeEven, with the reply
// and the pattern behind it.
type lineEdge struct {
	p     int
	line  string
	reply string
	want  int
}

func checkLineEdges(t *testing.T, edges []lineEdge) {
	t.Helper()
	for _, c := range edges {
		wantTurn(t, deskAt(c.p), c.line, deskAt(c.want), c.reply)
		if (c.reply == "no" || c.reply == "what") && c.p != c.want {
			t.Errorf("the edge %v changes the desk", c)
		}
	}
}

// TestLinesOfTheTable: each line of the document's table, where it is executed.
func TestLinesOfTheTable(t *testing.T) {
	checkLineEdges(t, []lineEdge{
		{one, "take 16e0", "16e0", sixteen},
		{sixteen, "plus 2e0", "18e0", eighteen},
		{eighteen, "less 2e0", "16e0", sixteen},
		{two, "times 3e0", "6e0", six},
		{six, "over 3e0", "2e0", two},
		{four, "root", "2e0", two},
		{57, "whole", "1e0", one},
		{eighteen, "rest 16e0", "2e0", two},
		{one, "up", "11e-1", 57},
		{one, "down", "94e-2", 55},
		{one, "negate", "-1e0", minusOne},
		{minusOne, "negate", "1e0", one},
		{63, "show", "19e-1", 63},
		{63, "exact", "1.875", 63},
		{63, "bits", "0.0111.111", 63},
		{63, "kind", "2", 63},
		{63, "single", "1072693248", 63},
		{63, "places 3", "188e-2", 63},
	})
	wantTurn(t, deskAt(63), "format 5 2", deskOf(impl.Format{Exponent: 5, Fraction: 2}, 0, impl.ModeEven), "ok")
	wantTurn(t, deskAt(63), "mode 4", deskOf(example, 63, impl.ModeDown), "ok")
	wantTurn(t, deskAt(63), "move 5 2", deskOf(impl.Format{Exponent: 5, Fraction: 2}, 64, impl.ModeEven), "2e0")
}

// modeEdge is a line on a desk of the format with 4 and 3, with the patterns behind it
// in the order of the modes.
type modeEdge struct {
	p    int
	line string
	want byMode
}

func TestLinesGoByTheMode(t *testing.T) {
	for _, c := range []modeEdge{
		// 17 is between 16 and 18.
		{sixteen, "plus 1e0", byMode{88, 89, 88, 89, 88, 89}},
		{one, "plus 16e0", byMode{88, 89, 88, 89, 88, 89}},
		{eighteen, "less 1e0", byMode{88, 89, 88, 89, 88, 89}},
		{sixteen, "less -1e0", byMode{88, 89, 88, 89, 88, 89}},
		{minusOne, "less 16e0", byMode{216, 217, 216, 216, 217, 217}},
		{one, "plus -1e0", zeroByMode},
		{one, "less 1e0", zeroByMode},
		{minusZero, "less -0e0", zeroByMode},
		{plusZero, "plus -0e0", zeroByMode},
		{minusZero, "plus -0e0", always(minusZero)},
		{minusZero, "less 0e0", always(minusZero)},
		{greatest, "plus 24e1", byMode{infinite, infinite, greatest, infinite, greatest, greatest}},
		// 81 / 64 is between 5 / 4 and 11 / 8.
		{57, "times 11e-1", byMode{58, 58, 58, 59, 58, 59}},
		{57, "times -11e-1", byMode{186, 186, 186, 186, 187, 187}},
		{unit, "times 1e-1", tinyByMode},
		{unit, "times -1e-1", minusTinyByMode},
		// 1 / 3 is between 5 / 16 and 11 / 32.
		{one, "over 3e0", byMode{43, 43, 42, 43, 42, 43}},
		{minusOne, "over 3e0", byMode{171, 171, 170, 170, 171, 171}},
		{one, "over 0e0", always(infinite)},
		{one, "over -0e0", always(minusInfinite)},
		// The root of 2 is between 11 / 8 and 3 / 2.
		{two, "root", byMode{59, 59, 59, 60, 59, 59}},
		{four, "root", always(two)},
		// 5 / 2 is between 2 and 3, and 1 / 2 between 0 and 1.
		{66, "whole", byMode{two, three, two, three, two, three}},
		{194, "whole", byMode{minusTwo, minusThree, minusTwo, minusTwo, minusThree, minusThree}},
		{48, "whole", byMode{plusZero, one, plusZero, one, plusZero, one}},
		{176, "whole", byMode{minusZero, minusOne, minusZero, minusZero, minusOne, minusOne}},
	} {
		for i, mode := range modes {
			want := deskOf(example, c.want[i], mode)
			wantTurn(t, deskOf(example, c.p, mode), c.line, want, wantShortestText(example, c.want[i]))
		}
	}
}

// TestMovesGoByTheMode: 17 / 8 is in the middle between 2 and 9 / 4 in the format with 4 and 3.
func TestMovesGoByTheMode(t *testing.T) {
	for i, mode := range modes {
		plus, minus := byMode{64, 65, 64, 65, 64, 65}[i], byMode{192, 193, 192, 192, 193, 193}[i]
		wantTurn(t, deskOf(largest, 16448, mode), "move 4 3", deskOf(example, plus, mode), wantShortestText(example, plus))
		wantTurn(t, deskOf(largest, 16448+1<<15, mode), "move 4 3", deskOf(example, minus, mode), wantShortestText(example, minus))
	}
}

// TestLinesThatGoByNoMode: they are the same in all.
func TestLinesThatGoByNoMode(t *testing.T) {
	for _, mode := range modes {
		for _, c := range []lineEdge{
			{eighteen, "rest 16e0", "2e0", two},
			{one, "rest 3e0", "1e0", one},
			{two, "rest 3e0", "-1e0", minusOne},
			{one, "take 17e0", "16e0", sixteen},
			{one, "up", "11e-1", 57},
			{one, "show", "1e0", one},
			{63, "places 1", "2e0", 63},
			{66, "places 1", "2e0", 66},
		} {
			wantTurn(t, deskOf(example, c.p, mode), c.line, deskOf(example, c.want, mode), c.reply)
		}
	}
}

func TestTakeAtEdges(t *testing.T) {
	checkLineEdges(t, []lineEdge{
		{one, "take 0e0", "0e0", plusZero},
		{one, "take 0e14", "0e0", plusZero},
		{one, "take -0e0", "-0e0", minusZero},
		{one, "take -0e-14", "-0e0", minusZero},
		{one, "take inf", "inf", infinite},
		{one, "take -inf", "-inf", minusInfinite},
		{one, "take nan", "nan", quiet},
		{noNumber, "take nan", "nan", quiet},
		{infinite, "take 1e0", "1e0", one},
		{one, "take 17e0", "16e0", sixteen},
		{one, "take 999999e14", "inf", infinite},
		{one, "take -999999e14", "-inf", minusInfinite},
		{one, "take 999999e-14", "0e0", plusZero},
		{one, "take -1e-14", "-0e0", minusZero},
		{one, "take 100000e-5", "1e0", one},
	})
}

// notShort are texts that are no V.
var notShort = []string{
	"", "-", "0", "1", "-0", "-1", "1e", "e1", "e", "1.5", "1.5e0", "1e0.5", "+1e0", "1e+0", "--1e0", "01e0", "00e0", "1e00", "1e-0", "-0e-0", "-00e0",
	"1000000e0", "1e15", "1e-15", "0e15", "1E0", "1e0x", "x", "x1e0", "1e0\t", "1e0\r", "\t1e0", "1e0\x00",
	"Inf", "INF", "+inf", "--inf", "infe0", "NaN", "NAN", "-nan", "+nan", "nan0", "0x1e0", "１e0", "\xff", "1e0\xff", "16", "3", "5 2",
}

// TestTextsThatAreNotRead: in each line with a V, also where the function would be quiet.
func TestTextsThatAreNotRead(t *testing.T) {
	for _, row := range consoleRows() {
		if row.takes != "V" {
			continue
		}
		for _, text := range notShort {
			for _, p := range []int{plusZero, one, minusInfinite, noNumber} {
				wantUnchanged(t, deskOf(example, p, impl.ModeOdd), row.word+" "+text, "what")
			}
		}
	}
}

func TestRestAtEdges(t *testing.T) {
	checkLineEdges(t, []lineEdge{
		{one, "rest 0e0", "nan", quiet},
		{one, "rest -0e0", "nan", quiet},
		{plusZero, "rest 0e0", "nan", quiet},
		{infinite, "rest 1e0", "nan", quiet},
		{minusInfinite, "rest inf", "nan", quiet},
		{one, "rest nan", "nan", quiet},
		{noNumber, "rest 1e0", "nan", quiet},
		{one, "rest inf", "1e0", one},
		{minusOne, "rest -inf", "-1e0", minusOne},
		{one, "rest 1e0", "0e0", plusZero},
		{minusOne, "rest 1e0", "-0e0", minusZero},
		{minusZero, "rest 1e0", "-0e0", minusZero},
	})
}

// TestQuietResults: a result that is no number is no reason for no.
func TestQuietResults(t *testing.T) {
	checkLineEdges(t, []lineEdge{
		{minusOne, "root", "nan", quiet},
		{noNumber, "root", "nan", quiet},
		{minusNoNumber, "whole", "nan", quiet},
		{infinite, "plus -inf", "nan", quiet},
		{infinite, "less inf", "nan", quiet},
		{plusZero, "times inf", "nan", quiet},
		{plusZero, "over 0e0", "nan", quiet},
		{infinite, "over inf", "nan", quiet},
		{one, "plus nan", "nan", quiet},
		{one, "less nan", "nan", quiet},
		{minusZero, "root", "-0e0", minusZero},
		{infinite, "root", "inf", infinite},
		{minusInfinite, "whole", "-inf", minusInfinite},
		// The sign and the fraction field of no numbers stay where nothing is computed.
		{noNumber, "negate", "nan", 249},
		{minusNoNumber, "negate", "nan", 127},
		{minusNoNumber, "show", "nan", minusNoNumber},
		{minusNoNumber, "bits", "1.1111.111", minusNoNumber},
	})
}

func TestUpAndDownAtEdges(t *testing.T) {
	checkLineEdges(t, []lineEdge{
		{infinite, "up", "no", infinite},
		{greatest, "up", "inf", infinite},
		{minusInfinite, "up", "-24e1", minusGreatest},
		{minusUnit, "up", "-0e0", minusZero},
		{minusZero, "up", "2e-3", unit},
		{plusZero, "up", "2e-3", unit},
		{quiet, "up", "no", quiet},
		{noNumber, "up", "no", noNumber},
		{minusNoNumber, "up", "no", minusNoNumber},
		{minusInfinite, "down", "no", minusInfinite},
		{minusGreatest, "down", "-inf", minusInfinite},
		{infinite, "down", "24e1", greatest},
		{unit, "down", "0e0", plusZero},
		{plusZero, "down", "-2e-3", minusUnit},
		{minusZero, "down", "-2e-3", minusUnit},
		{quiet, "down", "no", quiet},
		{noNumber, "down", "no", noNumber},
		{minusNoNumber, "down", "no", minusNoNumber},
	})
}

func TestExactAndPlacesAtEdges(t *testing.T) {
	for _, p := range []int{infinite, minusInfinite, quiet, noNumber, minusNoNumber} {
		for _, line := range []string{"exact", "places 0", "places 1", "places 6", "places 7", "places 999999"} {
			wantUnchanged(t, deskAt(p), line, "no")
		}
		wantUnchanged(t, deskAt(p), "places 1000000", "what")
		wantUnchanged(t, deskAt(p), "exact 1", "what")
	}
	checkLineEdges(t, []lineEdge{
		{plusZero, "exact", "0", plusZero},
		{minusZero, "exact", "-0", minusZero},
		{minusUnit, "exact", "-0.001953125", minusUnit},
		{greatest, "exact", "240", greatest},
		{one, "places 0", "no", one},
		{one, "places 1", "1e0", one},
		{one, "places 6", "100000e-5", one},
		{one, "places 7", "no", one},
		{one, "places 999999", "no", one},
		{plusZero, "places 0", "no", plusZero},
		{plusZero, "places 1", "0e0", plusZero},
		{plusZero, "places 6", "0e0", plusZero},
		{minusZero, "places 6", "0e0", minusZero},
		{minusZero, "places 7", "no", minusZero},
		// Without a sign.
		{minusOne, "places 1", "1e0", minusOne},
		{minusUnit, "places 2", "20e-4", minusUnit},
		{minusGreatest, "places 1", "2e2", minusGreatest},
		{minusGreatest, "places 2", "24e1", minusGreatest},
		{greatest, "places 6", "240000e-3", greatest},
		{63, "places 2", "19e-1", 63},
		{63, "places 4", "1875e-3", 63},
	})
}

func TestSingleAndKindAtEdges(t *testing.T) {
	for _, c := range []struct {
		p            int
		kind, single string
	}{
		{plusZero, "0", "0"},
		{minusZero, "0", "2147483648"},
		{unit, "1", "989855744"},
		{minusUnit, "1", "3137339392"},
		{one, "2", "1065353216"},
		{minusOne, "2", "3212836864"},
		{greatest, "2", "1131413504"},
		{infinite, "3", "2139095040"},
		{minusInfinite, "3", "4286578688"},
		{quiet, "4", "2143289344"},
		{noNumber, "4", "2143289344"},
		{minusNoNumber, "4", "2143289344"},
	} {
		wantUnchanged(t, deskAt(c.p), "kind", c.kind)
		wantUnchanged(t, deskAt(c.p), "single", c.single)
	}
}

// formatEdge is a line by which the format with 4 and 3 changes.
type formatEdge struct {
	p, mode int
	line    string
	reply   string
	want    impl.Desk
}

func checkFormatEdges(t *testing.T, edges []formatEdge) {
	t.Helper()
	for _, c := range edges {
		wantTurn(t, deskOf(example, c.p, c.mode), c.line, c.want, c.reply)
	}
}

// TestFormatAtEdges: the Mode stays, and the Pattern is 0, also where the Format is the
// same.
func TestFormatAtEdges(t *testing.T) {
	for _, mode := range modes {
		checkFormatEdges(t, []formatEdge{
			{63, mode, "format 5 2", "ok", deskOf(impl.Format{Exponent: 5, Fraction: 2}, 0, mode)},
			{63, mode, "format 4 3", "ok", deskOf(example, 0, mode)},
			{minusInfinite, mode, "format 2 1", "ok", deskOf(smallest, 0, mode)},
			{noNumber, mode, "format 5 10", "ok", deskOf(largest, 0, mode)},
		})
	}
}

func TestMoveAtEdges(t *testing.T) {
	five := impl.Format{Exponent: 5, Fraction: 2}
	checkFormatEdges(t, []formatEdge{
		// No numbers become the quiet one, also in the same format.
		{noNumber, impl.ModeEven, "move 5 2", "nan", deskOf(five, 126, impl.ModeEven)},
		{minusNoNumber, impl.ModeUp, "move 4 3", "nan", deskOf(example, quiet, impl.ModeUp)},
		{infinite, impl.ModeZero, "move 5 2", "inf", deskOf(five, 124, impl.ModeZero)},
		{minusInfinite, impl.ModeUp, "move 5 2", "-inf", deskOf(five, 252, impl.ModeUp)},
		// The greatest value of the format with 2 and 1 is 3, and its unit 1 / 2.
		{greatest, impl.ModeEven, "move 2 1", "inf", deskOf(smallest, 6, impl.ModeEven)},
		{minusGreatest, impl.ModeAway, "move 2 1", "-inf", deskOf(smallest, 14, impl.ModeAway)},
		{greatest, impl.ModeZero, "move 2 1", "3e0", deskOf(smallest, 5, impl.ModeZero)},
		{minusGreatest, impl.ModeUp, "move 2 1", "-3e0", deskOf(smallest, 13, impl.ModeUp)},
		{unit, impl.ModeEven, "move 2 1", "0e0", deskOf(smallest, 0, impl.ModeEven)},
		{minusUnit, impl.ModeEven, "move 2 1", "-0e0", deskOf(smallest, 8, impl.ModeEven)},
		{unit, impl.ModeUp, "move 2 1", "5e-1", deskOf(smallest, 1, impl.ModeUp)},
		{minusZero, impl.ModeOdd, "move 2 1", "-0e0", deskOf(smallest, 8, impl.ModeOdd)},
		// The reply is the text in the format moved to.
		{63, impl.ModeEven, "move 4 3", "19e-1", deskOf(example, 63, impl.ModeEven)},
		{63, impl.ModeEven, "move 5 10", "1875e-3", deskOf(largest, 16256, impl.ModeEven)},
	})
}

// TestTextsAreReadInTheNewFormat: 5 / 4 and 17 are none of the format with 2 and 1.
func TestTextsAreReadInTheNewFormat(t *testing.T) {
	checkScript(t,
		[]string{"take 17e0", "move 5 10", "take 17e0", "move 2 1", "take 125e-2", "up", "plus 1e0"},
		[]string{"16e0", "16e0", "17e0", "inf", "1e0", "15e-1", "2e0"},
		deskOf(smallest, 4, impl.ModeEven), nil)
}

// TestFormatsThatAreNone: all E and F of two places.
func TestFormatsThatAreNone(t *testing.T) {
	for e := range 40 {
		for f := range 40 {
			g := impl.Format{Exponent: e, Fraction: f}
			behind := " " + strconv.Itoa(e) + " " + strconv.Itoa(f)
			if e < 2 || e > 5 || f < 1 || f > 10 {
				wantUnchanged(t, deskOf(largest, 63, impl.ModeDown), "format"+behind, "no")
				wantUnchanged(t, deskOf(largest, 63, impl.ModeDown), "move"+behind, "no")
				continue
			}
			wantTurn(t, deskOf(largest, 63, impl.ModeDown), "format"+behind, deskOf(g, 0, impl.ModeDown), "ok")
		}
	}
	for _, behind := range []string{"0 0", "0 3", "4 0", "1 3", "6 3", "4 11", "999999 3", "4 999999", "999999 999999", "100000 3", "4 100003"} {
		for _, p := range []int{one, infinite, noNumber} {
			wantUnchanged(t, deskAt(p), "format "+behind, "no")
			wantUnchanged(t, deskAt(p), "move "+behind, "no")
		}
	}
}

func TestModesAtEdges(t *testing.T) {
	for _, before := range modes {
		for _, mode := range modes {
			wantTurn(t, deskOf(example, 63, before), "mode "+strconv.Itoa(mode), deskOf(example, 63, mode), "ok")
		}
		for _, line := range []string{"mode 6", "mode 7", "mode 10", "mode 256", "mode 999999"} {
			wantUnchanged(t, deskOf(example, noNumber, before), line, "no")
		}
		for _, line := range []string{"mode 1000000", "mode -1", "mode 00", "mode 05", "mode +5", "mode 5e0", "mode", "mode 5 5"} {
			wantUnchanged(t, deskOf(example, noNumber, before), line, "what")
		}
	}
}

// notNumbers are texts that are no E, F, K or M.
var notNumbers = []string{
	"1000000", "1000003", "9999999", "00", "03", "03 ", "000003", "0000003", "+3", "-3", "-0", "+0", "--3", "3-", "3.0", "3.", ".3", "3e0", "0e0", "0x3", "0b11", "1_0", "3_",
	"", "x", "three", "3x", "x3", "3\t", "\t3", "3\r", "3\x00", "\x003", "３", "٣", "\xff", "3\xff", "3,0", "inf", "nan",
	"9223372036854775807", "9223372036854775808", "18446744073709551619", "-9223372036854775808", strings.Repeat("3", 100), strings.Repeat("0", 100) + "3",
}

// TestNumbersThatAreNone: in the place of each number of a line, also beside one that
// belongs to no format.
func TestNumbersThatAreNone(t *testing.T) {
	for _, word := range notNumbers {
		for _, p := range []int{one, infinite, noNumber} {
			for _, start := range []string{"format ", "move "} {
				for _, other := range []string{"3", "999999", "0"} {
					wantUnchanged(t, deskAt(p), start+word+" "+other, "what")
					wantUnchanged(t, deskAt(p), start+other+" "+word, "what")
				}
				wantUnchanged(t, deskAt(p), start+word+" "+word, "what")
			}
			wantUnchanged(t, deskAt(p), "mode "+word, "what")
			wantUnchanged(t, deskAt(p), "places "+word, "what")
		}
	}
}
