package tests

import (
	"math/rand/v2"
	"slices"
	"strconv"
	"sync"
	"testing"

	"loop.example/g01178/impl"
)

func TestConsoleExample(t *testing.T) {
	d := firstDesk()
	lines := []string{"plus 16e0", "bits", "over 3e0", "exact", "mode 3", "plus 1e-2", "take x", "fly"}
	replies := []string{"16e0", "0.1011.000", "55e-1", "5.5", "ok", "6e0", "what", "what"}
	for i, want := range replies {
		next, got, ok := impl.DeskLine(d, lines[i])
		if !ok || got != want {
			t.Errorf("DeskLine of %v and %q: got %q, %v, want %q", d, lines[i], got, ok, want)
		}
		d = next
	}
	checkScript(t, lines, replies, deskOf(example, 76, impl.ModeUp), []int{7, 8})
}

func TestFirstDesk(t *testing.T) {
	want := impl.Desk{Format: impl.Format{Exponent: 4, Fraction: 3}, Pattern: 56, Mode: impl.ModeEven}
	if got := impl.FirstDesk(); got != want || !impl.IsDesk(got) {
		t.Errorf("FirstDesk is %v, want %v", got, want)
	}
}

// checkScript calls what takes a script.
func checkScript(t *testing.T, lines []string, replies []string, want impl.Desk, failed []int) {
	t.Helper()
	s := scriptOf(lines...)
	got, ok := impl.RunScript(s)
	if !ok || !slices.Equal(got, replies) {
		t.Fatalf("RunScript of %q: got %q, %v, want %q", s, got, ok, replies)
	}
	d, ok := impl.DeskAfter(s)
	if !ok || d != want {
		t.Fatalf("DeskAfter of %q: got %v, %v, want %v", s, d, ok, want)
	}
	numbers, ok := impl.FailedLines(s)
	if !ok || !slices.Equal(numbers, failed) {
		t.Fatalf("FailedLines of %q: got %v, %v, want %v", s, numbers, ok, failed)
	}
}

// TestLinesDoWhatTheyName: lines of one word, for patterns of all formats in all modes.
func TestLinesDoWhatTheyName(t *testing.T) {
	for _, f := range allFormats() {
		for i, p := range patternsFor(f) {
			for _, row := range consoleRows() {
				if row.takes != "" {
					continue
				}
				for _, mode := range modesFor(f, i) {
					checkLine(t, deskOf(f, p, mode), row.word)
				}
			}
		}
	}
}

// modesFor are all modes for the format with 4 and 3, and each one in turn for others.
func modesFor(f impl.Format, i int) []int {
	if f == example {
		return modes
	}
	return modes[i%6 : i%6+1]
}

// TestLinesWithPatterns: lines with a V, for texts that are read and that are not.
func TestLinesWithPatterns(t *testing.T) {
	for _, f := range allFormats() {
		for i, p := range fewPatterns(f) {
			for j, text := range someTexts() {
				for _, row := range consoleRows() {
					if row.takes != "V" {
						continue
					}
					for _, mode := range modesFor(f, i+j) {
						checkLine(t, deskOf(f, p, mode), row.word+" "+text)
					}
				}
			}
		}
	}
}

// TestLinesReadInTheirFormat: the V of each pattern is that pattern, or the quiet one,
// and show tells its text again.
func TestLinesReadInTheirFormat(t *testing.T) {
	for _, f := range allFormats() {
		for _, p := range patternsFor(f) {
			text := wantShortestText(f, p)
			wantTurn(t, deskOf(f, 1, impl.ModeAway), "take "+text, deskOf(f, kept(f, p), impl.ModeAway), text)
			wantTurn(t, deskOf(f, p, impl.ModeAway), "show", deskOf(f, p, impl.ModeAway), text)
		}
	}
}

// TestMovesToAllFormats: between all formats, for chosen patterns.
func TestMovesToAllFormats(t *testing.T) {
	for _, f := range allFormats() {
		for i, g := range allFormats() {
			behind := " " + strconv.Itoa(g.Exponent) + " " + strconv.Itoa(g.Fraction)
			for j, p := range fewPatterns(f) {
				mode := modes[(i+j)%6]
				checkLine(t, deskOf(f, p, mode), "move"+behind)
				wantTurn(t, deskOf(f, p, mode), "format"+behind, deskOf(g, 0, mode), "ok")
			}
		}
	}
}

// TestPlacesOfPatterns: all numbers of places, and those just out of range.
func TestPlacesOfPatterns(t *testing.T) {
	for _, f := range allFormats() {
		for _, p := range patternsFor(f) {
			for places := range 9 {
				checkLine(t, deskOf(f, p, impl.ModeDown), "places "+strconv.Itoa(places))
			}
		}
	}
}

// TestScriptsGoLineByLine: RunScript, DeskAfter and FailedLines agree with DeskLine,
// called line by line from FirstDesk, and all of them with the document's words.
func TestScriptsGoLineByLine(t *testing.T) {
	for seed := range uint64(400) {
		x := linesFrom{rand.New(rand.NewPCG(10, seed))}
		lines := x.lines(x.random.IntN(impl.MaxLines + 1))
		d := impl.FirstDesk()
		var replies []string
		var failed []int
		for i, line := range lines {
			checkLine(t, d, line)
			next, reply, _ := impl.DeskLine(d, line)
			if !impl.IsDesk(next) {
				t.Fatalf("DeskLine of %v and %q is %v, which is no desk", d, line, next)
			}
			replies = append(replies, reply)
			if reply == "no" || reply == "what" {
				failed = append(failed, i+1)
			}
			d = next
		}
		checkScript(t, lines, replies, d, failed)
	}
}

// TestFirstLinesReplyTheSame: what is behind a line changes nothing of its reply, nor of
// the lines that fail up to it.
func TestFirstLinesReplyTheSame(t *testing.T) {
	for seed := range uint64(100) {
		lines := linesFrom{rand.New(rand.NewPCG(11, seed))}.lines(impl.MaxLines)
		replies, ok := impl.RunScript(scriptOf(lines...))
		failed, fine := impl.FailedLines(scriptOf(lines...))
		if !ok || !fine || len(replies) != len(lines) {
			t.Fatalf("the script %q has %d replies", lines, len(replies))
		}
		d := firstDesk()
		for count := range len(lines) + 1 {
			if count > 0 {
				d, _ = wantLine(d, lines[count-1])
			}
			upTo := slices.DeleteFunc(slices.Clone(failed), func(n int) bool { return n > count })
			checkScript(t, lines[:count], replies[:count], d, upTo)
		}
	}
}

// TestScriptsAreSplit: a script that goes on where another one has ended does what both
// do together.
func TestScriptsAreSplit(t *testing.T) {
	for seed := range uint64(100) {
		lines := linesFrom{rand.New(rand.NewPCG(12, seed))}.lines(20)
		middle, ok := impl.DeskAfter(scriptOf(lines[:10]...))
		if !ok {
			t.Fatalf("DeskAfter of %q fails", lines[:10])
		}
		for _, line := range lines[10:] {
			middle, _, _ = impl.DeskLine(middle, line)
		}
		whole, ok := impl.DeskAfter(scriptOf(lines...))
		if !ok || whole != middle {
			t.Fatalf("DeskAfter of %q: got %v, %v, want %v", lines, whole, ok, middle)
		}
	}
}

// TestConsoleSaysTheSameAgain: also for several callers at once, and where what was
// returned before is overwritten.
func TestConsoleSaysTheSameAgain(t *testing.T) {
	var callers sync.WaitGroup
	for seed := range uint64(50) {
		lines := linesFrom{rand.New(rand.NewPCG(13, seed))}.lines(30)
		callers.Go(func() { checkConsoleAgain(t, scriptOf(lines...)) })
		callers.Go(func() { checkConsoleAgain(t, scriptOf(lines...)) })
	}
	callers.Wait()
}

func checkConsoleAgain(t *testing.T, s string) {
	replies, ok := impl.RunScript(s)
	failed, fine := impl.FailedLines(s)
	desk, done := impl.DeskAfter(s)
	wantReplies, wantFailed := slices.Clone(replies), slices.Clone(failed)
	for range 5 {
		overwrite(failed)
		for i := range replies {
			replies[i] = "overwritten"
		}
		replies, _ = impl.RunScript(s)
		failed, _ = impl.FailedLines(s)
		again, _ := impl.DeskAfter(s)
		if !ok || !fine || !done || again != desk || !slices.Equal(replies, wantReplies) || !slices.Equal(failed, wantFailed) {
			t.Errorf("the script %q: got %q, %v, %v, then %q, %v, %v", s, wantReplies, wantFailed, desk, replies, failed, again)
		}
	}
}
