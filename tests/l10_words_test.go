package tests

import (
	"strings"
	"testing"

	"loop.example/g01178/impl"
)

// busyDesks have all that could stay the same.
func busyDesks() []impl.Desk {
	return []impl.Desk{
		deskAt(one),
		deskOf(example, minusInfinite, impl.ModeUp),
		deskOf(example, minusNoNumber, impl.ModeOdd),
		deskOf(largest, 16448, impl.ModeDown),
		deskOf(smallest, 0, impl.ModeAway),
	}
}

// wantWhat calls DeskLine with a line that is none of the table's.
func wantWhat(t *testing.T, line string) {
	t.Helper()
	for _, d := range busyDesks() {
		wantUnchanged(t, d, line, "what")
	}
}

func TestLinesHaveTheirWords(t *testing.T) {
	for _, row := range consoleRows() {
		words := strings.Split(row.example, " ")
		for count := range len(words) {
			wantWhat(t, strings.Join(words[:count], " "))
		}
		for _, more := range []string{"", "0", "1", "3", "1e0", "nan", "x", row.word, row.example, "3 3", "1e0 1e0"} {
			wantWhat(t, row.example+" "+more)
		}
	}
}

func TestEmptyWords(t *testing.T) {
	for _, row := range consoleRows() {
		words := strings.Split(row.example, " ")
		for i := range len(words) + 1 {
			longer := append(append(append([]string{}, words[:i]...), ""), words[i:]...)
			wantWhat(t, strings.Join(longer, " "))
			if i < len(words) {
				emptied := append([]string{}, words...)
				emptied[i] = ""
				wantWhat(t, strings.Join(emptied, " "))
			}
		}
		wantWhat(t, " "+row.example+" ")
		wantWhat(t, "  "+row.example)
		wantWhat(t, row.example+"  ")
		wantWhat(t, strings.ReplaceAll(row.example, " ", "  ")+" ")
	}
	for _, line := range []string{"", " ", "  ", "   ", "    ", strings.Repeat(" ", 100), "plus  1e0", "format  4 3", "format 4  3", "mode  3", "places  3"} {
		wantWhat(t, line)
	}
}

// TestOtherBlanks: only the byte 32 separates words.
func TestOtherBlanks(t *testing.T) {
	for _, row := range consoleRows() {
		for _, blank := range []string{"\t", "\r", "\v", "\f", "\x00", "\u00a0", "\u2003", "\x85", "\x1f", "_", ",", "+"} {
			if strings.Contains(row.example, " ") {
				wantWhat(t, strings.Replace(row.example, " ", blank, 1))
				wantWhat(t, strings.ReplaceAll(row.example, " ", blank))
			}
			wantWhat(t, row.example+blank)
			wantWhat(t, blank+row.example)
		}
	}
}

func TestWordsInCapitals(t *testing.T) {
	for _, row := range consoleRows() {
		behind := row.example[len(row.word):]
		wantWhat(t, strings.ToUpper(row.word)+behind)
		for i := range len(row.word) {
			wantWhat(t, row.word[:i]+strings.ToUpper(row.word[i:i+1])+row.word[i+1:]+behind)
		}
	}
}

// TestWordsOfOtherLines: each first word with what stands behind each other one.
func TestWordsOfOtherLines(t *testing.T) {
	for _, row := range consoleRows() {
		for _, other := range consoleRows() {
			line := row.word + other.example[len(other.word):]
			for _, d := range busyDesks() {
				checkLine(t, d, line)
			}
			if row.takes == other.takes || row.takes+other.takes == "KM" || row.takes+other.takes == "MK" {
				continue
			}
			wantWhat(t, line)
		}
		for _, other := range consoleRows() {
			wantWhat(t, row.word+" "+other.word)
			wantWhat(t, row.word+other.word)
		}
	}
}

// TestWordsThatAreNone: those of the document that begin no line, and changed ones.
func TestWordsThatAreNone(t *testing.T) {
	for _, line := range []string{
		"fly", "ok", "no", "what", "desk", "pattern", "ConvertOf 5 2", "PlusOf 1e0", "1e0", "nan", "inf", "-inf", "56", "0.0111.000", "E F", "take V",
		"divide 1e0", "remainder 1e0", "minus 1e0", "abs", "next", "quit", "exit", "help", "#", "# show", "show;", "show,bits", "mode=3", "?",
	} {
		wantWhat(t, line)
	}
	words := map[string]bool{}
	for _, row := range consoleRows() {
		words[row.word] = true
	}
	for _, row := range consoleRows() {
		behind := row.example[len(row.word):]
		for i := range len(row.word) + 1 {
			for _, b := range []byte("aesx-0.\t\r\x00\x7f\x80\xff") {
				checkNoWord(t, words, row.word[:i]+string([]byte{b})+row.word[i:], behind)
				if i < len(row.word) {
					checkNoWord(t, words, row.word[:i]+string([]byte{b})+row.word[i+1:], behind)
					checkNoWord(t, words, row.word[:i]+row.word[i+1:], behind)
				}
			}
		}
	}
}

func checkNoWord(t *testing.T, words map[string]bool, word, behind string) {
	t.Helper()
	if !words[word] {
		wantWhat(t, word+behind)
	}
}

// TestHighBytes: in words, as words, and between them.
func TestHighBytes(t *testing.T) {
	for b := 128; b < 256; b++ {
		text := string([]byte{byte(b)})
		for _, line := range []string{text, "show" + text, text + "show", "sh" + text + "w", "take " + text, "take 1e0" + text, "take" + text + "1e0", "mode 3" + text, "mode " + text + "3", "format 4 " + text, "format " + text + " 3"} {
			wantWhat(t, line)
		}
		replies, ok := impl.RunScript("show\n" + text + "\nshow\n")
		if !ok || strings.Join(replies, " ") != "1e0 what 1e0" {
			t.Errorf("RunScript with the byte %d: got %q, %v", b, replies, ok)
		}
	}
	for _, line := range []string{"é", "show é", "ｓｈｏｗ", "take １e0", "mode ３", "ſhow", "�", "日本語", "taKe 1e0"} {
		wantWhat(t, line)
	}
}

// TestDesksStay: where the reply is no or what, nothing changes, and the lines behind
// such a one do what they do without it.
func TestDesksStay(t *testing.T) {
	lines := []string{"mode 3", "format 5 3", "take 3e0", "over 7e0", "move 3 2", "root", "less 17e-1", "up", "single"}
	failing := []string{"format 9 9", "move 0 3", "mode 6", "places 0", "up 1", "take x", "", " ", "plus", "format 4", "move 1000000 3", "Show", "places 7"}
	var mixed, replies []string
	var failed []int
	want, ok := impl.RunScript(scriptOf(lines...))
	if !ok || len(want) != len(lines) {
		t.Fatalf("RunScript of %q: got %q, %v", lines, want, ok)
	}
	for i, line := range lines {
		for _, other := range []string{failing[i], failing[i+4]} {
			mixed = append(mixed, other)
			failed = append(failed, len(mixed))
			replies = append(replies, replyOfFailing(other))
		}
		mixed, replies = append(mixed, line), append(replies, want[i])
	}
	d, ok := impl.DeskAfter(scriptOf(lines...))
	if !ok {
		t.Fatalf("DeskAfter of %q fails", lines)
	}
	checkScript(t, mixed, replies, d, failed)
}

// replyOfFailing is what the failing lines above reply on all desks.
func replyOfFailing(line string) string {
	switch line {
	case "format 9 9", "move 0 3", "mode 6", "places 0", "places 7":
		return "no"
	}
	return "what"
}
