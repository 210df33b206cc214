package tests

import (
	"math/rand/v2"
	"regexp"
	"strconv"
	"strings"
	"testing"

	"loop.example/g01178/impl"
)

// wordsBehind has the words of a line behind the first one, read: the numbers in order,
// or the pattern of a V.
type wordsBehind struct {
	numbers []int
	v       int
}

func (x wordsBehind) format() impl.Format {
	return impl.Format{Exponent: x.numbers[0], Fraction: x.numbers[1]}
}

// consoleRow is a line of the document's table: its first word, and what the others
// stand for. The call fails where the reply is no.
type consoleRow struct {
	word    string
	takes   string
	example string
	call    func(d impl.Desk, x wordsBehind) (impl.Desk, string, bool)
}

// The following make rows. The first three have an effect on the Pattern.

func ofPatternAlone(word string, call func(f impl.Format, p, mode int) (int, bool)) consoleRow {
	return consoleRow{word, "", word, func(d impl.Desk, x wordsBehind) (impl.Desk, string, bool) {
		p, ok := call(d.Format, d.Pattern, d.Mode)
		return behindPattern(d, p, ok)
	}}
}

func ofPatternAndV(word string, call func(f impl.Format, p, v, mode int) (int, bool)) consoleRow {
	return consoleRow{word, "V", word + " 3e0", func(d impl.Desk, x wordsBehind) (impl.Desk, string, bool) {
		p, ok := call(d.Format, d.Pattern, x.v, d.Mode)
		return behindPattern(d, p, ok)
	}}
}

func behindPattern(d impl.Desk, p int, ok bool) (impl.Desk, string, bool) {
	if !ok {
		return impl.Desk{}, "", false
	}
	d.Pattern = p
	return d, wantShortestText(d.Format, p), true
}

func ofText(word string, call func(f impl.Format, p int) (string, bool)) consoleRow {
	return consoleRow{word, "", word, func(d impl.Desk, x wordsBehind) (impl.Desk, string, bool) {
		text, ok := call(d.Format, d.Pattern)
		return d, text, ok
	}}
}

func withoutMode(call ofPattern) func(f impl.Format, p, mode int) (int, bool) {
	return func(f impl.Format, p, mode int) (int, bool) { return call(f, p) }
}

func inDecimal(call ofPattern) func(f impl.Format, p int) (string, bool) {
	return func(f impl.Format, p int) (string, bool) {
		n, ok := call(f, p)
		return strconv.Itoa(n), ok
	}
}

func placesText(d impl.Desk, x wordsBehind) (impl.Desk, string, bool) {
	digits, ten, ok := impl.NearestDecimal(d.Format, d.Pattern, x.numbers[0])
	return d, decimal{digits, ten}.text(), ok
}

func otherFormat(d impl.Desk, x wordsBehind) (impl.Desk, string, bool) {
	return impl.Desk{Format: x.format(), Mode: d.Mode}, "ok", impl.IsFormat(x.format())
}

func otherMode(d impl.Desk, x wordsBehind) (impl.Desk, string, bool) {
	mode := x.numbers[0]
	return impl.Desk{Format: d.Format, Pattern: d.Pattern, Mode: mode}, "ok", mode <= 5
}

func moved(d impl.Desk, x wordsBehind) (impl.Desk, string, bool) {
	p, ok := impl.ConvertOf(d.Format, x.format(), d.Pattern, d.Mode)
	return behindPattern(impl.Desk{Format: x.format(), Mode: d.Mode}, p, ok)
}

// consoleRows is the document's table.
func consoleRows() []consoleRow {
	return []consoleRow{
		{"format", "EF", "format 5 2", otherFormat},
		{"mode", "M", "mode 3", otherMode},
		ofPatternAndV("take", func(f impl.Format, p, v, mode int) (int, bool) { return v, true }),
		ofPatternAndV("plus", impl.PlusOf),
		ofPatternAndV("less", impl.LessOf),
		ofPatternAndV("times", impl.TimesOf),
		ofPatternAndV("over", impl.DivideOf),
		ofPatternAlone("root", impl.RootOf),
		ofPatternAlone("whole", impl.WholeOf),
		ofPatternAndV("rest", func(f impl.Format, p, v, mode int) (int, bool) { return impl.RemainderOf(f, p, v) }),
		ofPatternAlone("up", withoutMode(impl.NextUp)),
		ofPatternAlone("down", withoutMode(impl.NextDown)),
		ofPatternAlone("negate", withoutMode(impl.NegateOf)),
		{"move", "EF", "move 5 2", moved},
		ofText("show", func(f impl.Format, p int) (string, bool) { return wantShortestText(f, p), true }),
		ofText("exact", impl.ExactText),
		ofText("bits", impl.PatternText),
		ofText("kind", inDecimal(impl.KindOf)),
		ofText("single", inDecimal(impl.SingleOf)),
		{"places", "K", "places 3", placesText},
	}
}

// numberText is what the document tells of the texts of numbers in 0..999999.
var numberText = regexp.MustCompile(`^(0|[1-9][0-9]{0,5})$`)

// read reads the words of a line behind the first one. It fails where there are too many
// or too few, or where one is not what it should be.
func (row consoleRow) read(f impl.Format, words []string) (wordsBehind, bool) {
	var x wordsBehind
	if len(words) != len(row.takes) {
		return x, false
	}
	for i, word := range words {
		var ok bool
		if row.takes[i] == 'V' {
			x.v, ok = wantParsed(f, word)
		} else if ok = numberText.MatchString(word); ok {
			n, _ := strconv.Atoi(word)
			x.numbers = append(x.numbers, n)
		}
		if !ok {
			return x, false
		}
	}
	return x, true
}

// wordsOf separates words by single blanks.
func wordsOf(line string) []string {
	words := []string{""}
	for i := range len(line) {
		if line[i] == ' ' {
			words = append(words, "")
			continue
		}
		words[len(words)-1] += line[i : i+1]
	}
	return words
}

// wantLine follows the document's words: the desk behind a line, and its reply.
func wantLine(d impl.Desk, line string) (impl.Desk, string) {
	words := wordsOf(line)
	for _, row := range consoleRows() {
		if row.word != words[0] {
			continue
		}
		x, ok := row.read(d.Format, words[1:])
		if !ok {
			return d, "what"
		}
		next, reply, ok := row.call(d, x)
		if !ok {
			return d, "no"
		}
		return next, reply
	}
	return d, "what"
}

func checkLine(t *testing.T, d impl.Desk, line string) {
	t.Helper()
	want, reply := wantLine(d, line)
	wantTurn(t, d, line, want, reply)
}

// wantTurn calls DeskLine.
func wantTurn(t *testing.T, d impl.Desk, line string, want impl.Desk, reply string) {
	t.Helper()
	next, got, ok := impl.DeskLine(d, line)
	if !ok || next != want || got != reply {
		t.Fatalf("DeskLine of %v and %q: got %v, %q, %v, want %v, %q", d, line, next, got, ok, want, reply)
	}
}

// wantUnchanged calls DeskLine with a line whose reply is no or what.
func wantUnchanged(t *testing.T, d impl.Desk, line string, reply string) {
	t.Helper()
	wantTurn(t, d, line, d, reply)
}

func deskOf(f impl.Format, p, mode int) impl.Desk {
	return impl.Desk{Format: f, Pattern: p, Mode: mode}
}

// deskAt is one of the format with 4 and 3, in ModeEven.
func deskAt(p int) impl.Desk {
	return deskOf(example, p, impl.ModeEven)
}

func firstDesk() impl.Desk {
	return deskAt(one)
}

// someTexts are texts of a V. Those at the end are none.
func someTexts() []string {
	return []string{
		"0e0", "-0e0", "1e0", "-1e0", "2e0", "3e0", "-3e0", "5e-1", "1e-1", "16e0", "17e0", "-17e0", "2e-3", "-2e-3", "19e-1",
		"24e1", "-24e1", "999999e-14", "999999e14", "-999999e14", "inf", "-inf", "nan",
		"", "0", "-0", "3", "1e", "x", "-nan", "1E0", "01e0", "1000000e0", "1e15",
	}
}

// someNumbers are texts of numbers. Those at the end are none.
func someNumbers() []string {
	return []string{"0", "1", "2", "3", "4", "5", "6", "7", "10", "11", "999999", "", "1000000", "04", "-1", "+3", "3e0", "x"}
}

// linesFrom are chosen ones, with all words of the document's table, and others.
type linesFrom struct {
	random *rand.Rand
}

func (x linesFrom) one(list []string) string {
	return list[x.random.IntN(len(list))]
}

// number is mostly one that is an Exponent, a Fraction, and a mode.
func (x linesFrom) number() string {
	if x.random.IntN(8) == 0 {
		return x.one(someNumbers())
	}
	return strconv.Itoa(2 + x.random.IntN(4))
}

func (x linesFrom) line() string {
	if x.random.IntN(20) == 0 {
		return x.one([]string{"", " ", "fly", "Show", "show ", " show", "plus  1e0", "\xff", "mode", "\t", "move 4 3 2", "negate\r"})
	}
	rows := consoleRows()
	row := rows[x.random.IntN(len(rows))]
	words := []string{row.word}
	for _, what := range row.takes {
		if what == 'V' {
			words = append(words, x.one(someTexts()))
		} else {
			words = append(words, x.number())
		}
	}
	return strings.Join(words, " ")
}

func (x linesFrom) lines(count int) []string {
	var list []string
	for range count {
		list = append(list, x.line())
	}
	return list
}

// scriptOf ends each line by a newline.
func scriptOf(lines ...string) string {
	text := ""
	for _, line := range lines {
		text += line + "\n"
	}
	return text
}
