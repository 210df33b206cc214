package tests

import (
	"math"
	"sync"

	"loop.example/g01178/impl"
)

// rulers has the rulers of all formats, which tests of pairs of formats use
// again and again.
var rulers = sync.OnceValue(func() map[impl.Format]ruler {
	all := map[impl.Format]ruler{}
	for _, f := range allFormats() {
		all[f] = rulerOf(f)
	}
	return all
})

// convert returns the pattern of g for a pattern of f.
func convert(f, g impl.Format, p int, mode int) int {
	return rulers()[g].float(rulers()[f].values[p], mode)
}

// kept returns what of a pattern is left where no value is lost: no numbers
// become the quiet one.
func kept(f impl.Format, p int) int {
	if math.IsNaN(rulers()[f].values[p]) {
		return quietOf(f)
	}
	return p
}

// finiteValues returns the values of all finite patterns, both zeros too.
func finiteValues(f impl.Format) []float64 {
	var list []float64
	for _, x := range rulers()[f].values {
		if !math.IsNaN(x) && !math.IsInf(x, 0) {
			list = append(list, x)
		}
	}
	return list
}

// holds follows the document's definition: each finite value of f is one of g.
func holds(f, g impl.Format) bool {
	return lost(f, g) == 0
}

// lost counts finite patterns.
func lost(f, g impl.Format) int {
	n := 0
	for _, x := range finiteValues(f) {
		n += oneIf(!rulers()[g].has(x))
	}
	return n
}

// shared counts values, so both zeros of f once.
func shared(f, g impl.Format) int {
	both := map[float64]bool{}
	for _, x := range finiteValues(f) {
		if rulers()[g].has(x) {
			both[x] = true
		}
	}
	return len(both)
}

// fewFormats are the bounds of both fields, and some in between.
func fewFormats() []impl.Format {
	return []impl.Format{
		smallest, largest, example,
		{Exponent: 2, Fraction: 10},
		{Exponent: 5, Fraction: 1},
		{Exponent: 5, Fraction: 2},
		{Exponent: 5, Fraction: 5},
		{Exponent: 4, Fraction: 7},
		{Exponent: 3, Fraction: 4},
		{Exponent: 3, Fraction: 2},
	}
}

// forTriples calls check for all triples of the formats.
func forTriples(formats []impl.Format, check func(f, g, h impl.Format)) {
	for _, f := range formats {
		for _, g := range formats {
			for _, h := range formats {
				check(f, g, h)
			}
		}
	}
}
