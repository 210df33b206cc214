package tests

import (
	"math"
	"strconv"
	"strings"
	"testing"

	"loop.example/g01178/impl"
)

var (
	example  = impl.Format{Exponent: 4, Fraction: 3}
	smallest = impl.Format{Exponent: 2, Fraction: 1}
	largest  = impl.Format{Exponent: 5, Fraction: 10}
)

func allFormats() []impl.Format {
	var list []impl.Format
	for exponent := 2; exponent <= 5; exponent++ {
		for fraction := 1; fraction <= 10; fraction++ {
			list = append(list, impl.Format{Exponent: exponent, Fraction: fraction})
		}
	}
	return list
}

// narrowFormats are those for which a test may look at all pairs of patterns.
func narrowFormats() []impl.Format {
	var list []impl.Format
	for _, f := range allFormats() {
		if widthOf(f) <= 8 {
			list = append(list, f)
		}
	}
	return list
}

func notFormats() []impl.Format {
	return []impl.Format{
		{},
		{Exponent: 1, Fraction: 3},
		{Exponent: 6, Fraction: 3},
		{Exponent: 4, Fraction: 0},
		{Exponent: 4, Fraction: 11},
		{Exponent: 0, Fraction: 3},
		{Exponent: -4, Fraction: 3},
		{Exponent: 4, Fraction: -3},
		{Exponent: 3, Fraction: 4 - 64},
		{Exponent: math.MinInt, Fraction: math.MinInt},
		{Exponent: math.MaxInt, Fraction: math.MaxInt},
		{Exponent: math.MinInt, Fraction: 3},
		{Exponent: 4, Fraction: math.MaxInt},
	}
}

func notPatterns(f impl.Format) []int {
	count := 1 << widthOf(f)
	return []int{-1, -count, count, count + 1, 2 * count, 1 << 40, math.MinInt, math.MinInt + 1, math.MaxInt}
}

func widthOf(f impl.Format) int {
	return 1 + f.Exponent + f.Fraction
}

func allPatterns(f impl.Format) []int {
	list := make([]int, 1<<widthOf(f))
	for p := range list {
		list[p] = p
	}
	return list
}

// told is what the document tells of a pattern, read off its digits in
// base 2, and its value by powers of two.
type told struct {
	sign, exponent, fraction int
	text                     string
	kind                     int
	units                    int
	size                     float64
}

func tell(f impl.Format, p int) told {
	digits := strconv.FormatInt(int64(p)+1<<widthOf(f), 2)[1:]
	parts := []string{digits[:1], digits[1 : 1+f.Exponent], digits[1+f.Exponent:]}
	x := told{
		sign:     number(parts[0]),
		exponent: number(parts[1]),
		fraction: number(parts[2]),
		text:     strings.Join(parts, "."),
	}
	x.kind = kindOf(parts)
	if x.kind < 3 {
		x.size = sizeOf(f, x.exponent, x.fraction)
		x.units = int(x.size / sizeOf(f, 0, 1))
		if x.sign == 1 {
			x.units = -x.units
		}
	}
	return x
}

func number(digits string) int {
	n, err := strconv.ParseInt(digits, 2, 64)
	if err != nil {
		panic(err)
	}
	return int(n)
}

func kindOf(parts []string) int {
	noFraction := !strings.Contains(parts[2], "1")
	switch {
	case !strings.Contains(parts[1], "0") && noFraction:
		return 3
	case !strings.Contains(parts[1], "0"):
		return 4
	case strings.Contains(parts[1], "1"):
		return 2
	case noFraction:
		return 0
	}
	return 1
}

func sizeOf(f impl.Format, exponent, fraction int) float64 {
	bias := math.Pow(2, float64(f.Exponent-1)) - 1
	part := float64(fraction) / math.Pow(2, float64(f.Fraction))
	if exponent == 0 {
		return part * math.Pow(2, 1-bias)
	}
	return (1 + part) * math.Pow(2, float64(exponent)-bias)
}

// order gives numbers, the infinite ones too, a value that may be compared.
func (x told) order() float64 {
	size := x.size
	if x.kind == 3 {
		size = math.Inf(1)
	}
	if x.sign == 1 {
		return -size
	}
	return size
}

func wantInt(t *testing.T, what string, f impl.Format, argument int, got int, ok bool, want int) {
	t.Helper()
	if !ok || got != want {
		t.Fatalf("%s of %v and %d: got %d, %v, want %d", what, f, argument, got, ok, want)
	}
}

func wantNone(t *testing.T, what string, f impl.Format, argument any, got int, ok bool) {
	t.Helper()
	if ok || got != 0 {
		t.Fatalf("%s of %v and %v: got %d, %v, want a failure", what, f, argument, got, ok)
	}
}
