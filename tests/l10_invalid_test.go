package tests

import (
	"math/rand/v2"
	"slices"
	"strings"
	"testing"

	"loop.example/g01178/impl"
)

func TestDesksAreTold(t *testing.T) {
	for _, f := range allFormats() {
		for _, p := range allPatterns(f) {
			if mode := modes[p%6]; !impl.IsDesk(deskOf(f, p, mode)) {
				t.Fatalf("IsDesk of %v is false", deskOf(f, p, mode))
			}
		}
		for _, mode := range modes {
			if !impl.IsDesk(deskOf(f, 0, mode)) || !impl.IsDesk(deskOf(f, 1<<widthOf(f)-1, mode)) {
				t.Errorf("IsDesk of one of %v and the mode %d is false", f, mode)
			}
		}
	}
}

// notDesks has desks whose Format is none, whose Pattern is none of the Format, and whose
// Mode is none of the six.
func notDesks() []impl.Desk {
	list := []impl.Desk{{}}
	for _, f := range notFormats() {
		list = append(list, deskOf(f, 0, impl.ModeEven), deskOf(f, 56, impl.ModeOdd), deskOf(f, -1, impl.ModeUp))
	}
	for _, f := range allFormats() {
		for _, p := range notPatterns(f) {
			list = append(list, deskOf(f, p, impl.ModeEven), deskOf(f, p, impl.ModeOdd))
		}
		for _, mode := range notModes() {
			list = append(list, deskOf(f, 0, mode), deskOf(f, 1, mode), deskOf(f, 1<<widthOf(f)-1, mode))
		}
	}
	return list
}

func wantNoTurn(t *testing.T, d impl.Desk, line string) {
	t.Helper()
	next, reply, ok := impl.DeskLine(d, line)
	if ok || next != (impl.Desk{}) || reply != "" {
		t.Fatalf("DeskLine of %v and a line of %d bytes: got %v, %q, %v, want a failure", d, len(line), next, reply, ok)
	}
}

func TestLinesRequireDesks(t *testing.T) {
	for _, d := range notDesks() {
		if impl.IsDesk(d) {
			t.Errorf("IsDesk of %v is true", d)
		}
		for _, row := range consoleRows() {
			wantNoTurn(t, d, row.example)
		}
		for _, line := range []string{"", " ", "fly", "format 4 3", "mode 0", "take 1e0", "take nan", "format 0 0", "mode 6", "\n"} {
			wantNoTurn(t, d, line)
		}
	}
}

func TestLinesHaveNoNewline(t *testing.T) {
	for _, d := range busyDesks() {
		for _, line := range []string{"\n", "\n\n", "show\n", "\nshow", "sh\now", "take\n1e0", "take 1e0\n", "show\nshow", "show\nshow\n", "fly\n", " \n", "\xff\n"} {
			wantNoTurn(t, d, line)
		}
	}
	for _, row := range consoleRows() {
		for i := range len(row.example) + 1 {
			wantNoTurn(t, firstDesk(), row.example[:i]+"\n"+row.example[i:])
		}
	}
}

func TestLinesHaveALimit(t *testing.T) {
	for _, d := range busyDesks() {
		for _, part := range []string{"x", " ", "0", "\xff", "\x00", "\r"} {
			for _, length := range []int{1, 100, impl.MaxScript - 1, impl.MaxScript} {
				wantUnchanged(t, d, strings.Repeat(part, length), "what")
			}
			for _, length := range []int{impl.MaxScript + 1, impl.MaxScript + 2, 2 * impl.MaxScript, 100000} {
				wantNoTurn(t, d, strings.Repeat(part, length))
			}
		}
		for _, start := range []string{"show ", "take ", "plus 1e0 ", "format 4 3 ", "mode ", "places "} {
			longest := start + strings.Repeat("0", impl.MaxScript-len(start))
			wantUnchanged(t, d, longest, "what")
			wantNoTurn(t, d, longest+"0")
			wantNoTurn(t, d, longest[:len(longest)-1]+"\n")
		}
	}
}

// wantNoScript calls what takes a script with a text that is none.
func wantNoScript(t *testing.T, s string) {
	t.Helper()
	replies, ok := impl.RunScript(s)
	if ok || replies != nil {
		t.Errorf("RunScript of %.50q and so on, %d bytes: got %q, %v, want a failure", s, len(s), replies, ok)
	}
	d, ok := impl.DeskAfter(s)
	if ok || d != (impl.Desk{}) {
		t.Errorf("DeskAfter of %.50q and so on, %d bytes: got %v, %v, want a failure", s, len(s), d, ok)
	}
	failed, ok := impl.FailedLines(s)
	if ok || failed != nil {
		t.Errorf("FailedLines of %.50q and so on, %d bytes: got %v, %v, want a failure", s, len(s), failed, ok)
	}
}

func TestScriptsEndWithANewline(t *testing.T) {
	for _, s := range []string{"show", " ", "x", "show\nshow", "show\n ", "show\n\n ", "\nx", "\n\n\nshow", "show\n\r", "show\r", "show\n\x00", "mode 3\nplus", "\xff", "show\\n"} {
		wantNoScript(t, s)
	}
}

func TestScriptsAtEdges(t *testing.T) {
	checkScript(t, nil, nil, firstDesk(), nil)
	checkScript(t, []string{""}, []string{"what"}, firstDesk(), []int{1})
	checkScript(t, []string{"", "", ""}, []string{"what", "what", "what"}, firstDesk(), []int{1, 2, 3})
	checkScript(t, []string{" "}, []string{"what"}, firstDesk(), []int{1})
	checkScript(t, []string{"show"}, []string{"1e0"}, firstDesk(), nil)
	checkScript(t, []string{"", "negate", "", "show"}, []string{"what", "-1e0", "what", "-1e0"}, deskAt(minusOne), []int{1, 3})
	checkScript(t, []string{"show\r", "\r"}, []string{"what", "what"}, firstDesk(), []int{1, 2})
}

func TestFailedLinesAtEdges(t *testing.T) {
	checkScript(t, []string{"up", "kind", "mode 1"}, []string{"11e-1", "2", "ok"}, deskOf(example, 57, impl.ModeAway), nil)
	checkScript(t, []string{"fly", "mode 6", "Up", "format 4"}, []string{"what", "no", "what", "what"}, firstDesk(), []int{1, 2, 3, 4})
	checkScript(t, []string{"mode 6", "mode 7"}, []string{"no", "no"}, firstDesk(), []int{1, 2})
	checkScript(t, []string{"fly"}, []string{"what"}, firstDesk(), []int{1})
	checkScript(t, []string{"up", "up 1", "negate", "places 0", "show"}, []string{"11e-1", "what", "-11e-1", "no", "-11e-1"}, deskAt(57+minusZero), []int{2, 4})
	// nan is no reason for a line to be among them.
	checkScript(t, []string{"negate", "root", "up", "exact", "show"}, []string{"-1e0", "nan", "no", "no", "nan"}, deskAt(quiet), []int{3, 4})
}

func TestConsoleLimits(t *testing.T) {
	if impl.MaxLines != 50 || impl.MaxScript != 3000 {
		t.Errorf("MaxLines is %d and MaxScript %d", impl.MaxLines, impl.MaxScript)
	}
}

func TestScriptsHaveAtMostMaxLines(t *testing.T) {
	for _, line := range []string{"", "up", "show", "fly"} {
		for _, count := range []int{impl.MaxLines - 1, impl.MaxLines} {
			lines := slices.Repeat([]string{line}, count)
			d := firstDesk()
			var replies []string
			var failed []int
			for i := range lines {
				next, reply := wantLine(d, line)
				d, replies = next, append(replies, reply)
				if reply == "what" {
					failed = append(failed, i+1)
				}
			}
			checkScript(t, lines, replies, d, failed)
		}
		for _, count := range []int{impl.MaxLines + 1, impl.MaxLines + 2, 2 * impl.MaxLines, 10 * impl.MaxLines} {
			wantNoScript(t, strings.Repeat(line+"\n", count))
		}
		// The last line is none without its newline.
		wantNoScript(t, strings.Repeat(line+"\n", impl.MaxLines)+"x")
		wantNoScript(t, strings.Repeat(line+"\n", impl.MaxLines)+" ")
	}
}

func TestScriptsHaveAtMostMaxScriptBytes(t *testing.T) {
	for count := 1; count <= impl.MaxLines; count++ {
		lines := slices.Repeat([]string{"up"}, count)
		lines[0] = ""
		left := impl.MaxScript - len(scriptOf(lines...))
		d := firstDesk()
		replies := []string{"what"}
		for range count - 1 {
			next, reply := wantLine(d, "up")
			d, replies = next, append(replies, reply)
		}
		for _, shorter := range []int{0, 1} {
			lines[0] = strings.Repeat("x", left-shorter)
			checkScript(t, lines, replies, d, []int{1})
		}
		for _, longer := range []int{1, 2, 1000, 100000} {
			lines[0] = strings.Repeat("x", left+longer)
			wantNoScript(t, scriptOf(lines...))
		}
	}
	for _, length := range []int{impl.MaxScript, impl.MaxScript + 1, 1000000} {
		wantNoScript(t, strings.Repeat("x", length))
		wantNoScript(t, strings.Repeat("\n", length))
	}
}

// TestConsoleIsTotal: a panic in one of the calls fails the test, and so does a result
// beside false, a desk that is none, or what the document's words do not tell.
func TestConsoleIsTotal(t *testing.T) {
	random := rand.New(rand.NewPCG(14, 14))
	pieces := []string{
		" ", " ", "\n", "\n", "", "0", "1", "3", "4", "5", "10", "e", "-", "e0", "1e0", "inf", "nan", "\xff", "\x00", "\r", "999999", "1000000",
		"format ", "mode ", "take ", "plus ", "less ", "times ", "over ", "root", "whole", "rest ", "up", "down", "negate", "move ", "show", "exact", "bits", "kind", "single", "places ",
	}
	for range 20000 {
		s := ""
		for range random.IntN(12) {
			s += pieces[random.IntN(len(pieces))]
		}
		for _, d := range busyDesks() {
			if strings.Contains(s, "\n") {
				wantNoTurn(t, d, s)
			} else {
				checkLine(t, d, s)
			}
		}
		checkAnyScript(t, s)
		checkAnyScript(t, s+"\n")
	}
}

func checkAnyScript(t *testing.T, s string) {
	t.Helper()
	lines := strings.SplitAfter(s, "\n")
	if lines[len(lines)-1] != "" {
		wantNoScript(t, s)
		return
	}
	d := firstDesk()
	var replies []string
	var failed []int
	for i := range len(lines) - 1 {
		lines[i] = strings.TrimSuffix(lines[i], "\n")
		next, reply := wantLine(d, lines[i])
		d, replies = next, append(replies, reply)
		if reply == "no" || reply == "what" {
			failed = append(failed, i+1)
		}
	}
	checkScript(t, lines[:len(lines)-1], replies, d, failed)
}

// TestConsoleWithWildNumbers: a panic in one of the calls fails the test.
func TestConsoleWithWildNumbers(t *testing.T) {
	for _, a := range wild {
		for _, b := range wild {
			for _, d := range []impl.Desk{deskOf(impl.Format{Exponent: a, Fraction: b}, a, b), deskOf(example, a, b), deskOf(impl.Format{Exponent: 5, Fraction: a}, b, a), deskOf(smallest, a, b)} {
				for _, row := range consoleRows() {
					next, reply, ok := impl.DeskLine(d, row.example)
					if ok != impl.IsDesk(d) || ok != impl.IsDesk(next) || ok != (reply != "") {
						t.Fatalf("DeskLine of %v and %q: got %v, %q, %v", d, row.example, next, reply, ok)
					}
				}
			}
		}
	}
}
