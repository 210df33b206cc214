package impl

import (
	"cmp"
	"math"
	"math/bits"
	"strconv"
	"strings"
)

const MaxUnits = 2199023255552

const (
	leastExponent    = 2
	greatestExponent = 5
	leastFraction    = 1
	greatestFraction = 10
)

// The fraction field and the bias of a float32.
const (
	floatFraction = 23
	floatBias     = 127
)

const noNumberKind = 4

type Format struct {
	Exponent int
	Fraction int
}

// fields holds the fields of a pattern at the indices below, so that
// whole patterns are compared at once.
type fields [3]int

const (
	atSign = iota
	atExponent
	atFraction
)

// shape is a pattern taken apart, with the exponent field of all ones of its
// format: only against that one can its kind be told.
type shape struct {
	fields fields
	ones   int
}

func (s shape) size() fields {
	return fields{0, s.fields[atExponent], s.fields[atFraction]}
}

func (s shape) isZero() bool {
	return s.size() == fields{}
}

func (s shape) isSubnormal() bool {
	return s.fields[atExponent] == 0 && !s.isZero()
}

func (s shape) isNormal() bool {
	return s.fields[atExponent] > 0 && s.isFinite()
}

func (s shape) isFinite() bool {
	return s.fields[atExponent] < s.ones
}

func (s shape) isInfinite() bool {
	return s.size() == fields{atExponent: s.ones}
}

func (s shape) isNumber() bool {
	return s.isFinite() || s.isInfinite()
}

// has reports whether p is a pattern of f, and answers the question with yes.
func has(f Format, p int, question func(shape) bool) bool {
	return isPattern(f, p) && question(shapeOf(f, p))
}

func isPattern(f Format, p int) bool {
	return IsFormat(f) && p >= 0 && p < 2*signBit(f)
}

func shapeOf(f Format, p int) shape {
	return shape{fieldsOf(f, p), exponentOnes(f)}
}

func fieldsOf(f Format, p int) fields {
	return fields{
		atSign:     p / signBit(f),
		atExponent: p >> f.Fraction & exponentOnes(f),
		atFraction: p & fractionOnes(f),
	}
}

func patternOf(f Format, x fields) int {
	return (x[atSign]<<f.Exponent|x[atExponent])<<f.Fraction | x[atFraction]
}

func signBit(f Format) int {
	return 1 << (f.Exponent + f.Fraction)
}

func exponentOnes(f Format) int {
	return 1<<f.Exponent - 1
}

func fractionOnes(f Format) int {
	return 1<<f.Fraction - 1
}

// floatOf returns the size of finite fields in units. A float32 loses nothing
// of it: it has at most 11 places, and is less than 2^40.
func floatOf(f Format, x fields) float32 {
	if x[atExponent] == 0 {
		return float32(x[atFraction])
	}
	exponent := x[atExponent] - 1 + f.Fraction + floatBias
	fraction := x[atFraction] << (floatFraction - f.Fraction)
	return math.Float32frombits(uint32(exponent<<floatFraction | fraction))
}

// fieldsOfFloat undoes floatOf, with the sign 0.
func fieldsOfFloat(f Format, size float32) fields {
	if int(size) <= fractionOnes(f) {
		return fields{atFraction: int(size)}
	}
	word := int(math.Float32bits(size))
	return fields{
		atExponent: word>>floatFraction - floatBias - f.Fraction + 1,
		atFraction: word >> (floatFraction - f.Fraction) & fractionOnes(f),
	}
}

// frontPlaces makes all binary places of u behind the first n ones 0.
func frontPlaces(u int, n int) int {
	behind := max(bits.Len(uint(u))-n, 0)
	return u >> behind << behind
}

// IsFormat reports whether f is a format.
func IsFormat(f Format) bool {
	return f.Exponent >= leastExponent && f.Exponent <= greatestExponent &&
		f.Fraction >= leastFraction && f.Fraction <= greatestFraction
}

// WidthOf returns the width.
func WidthOf(f Format) (int, bool) {
	if !IsFormat(f) {
		return 0, false
	}
	return 1 + f.Exponent + f.Fraction, true
}

// BiasOf returns the bias.
func BiasOf(f Format) (int, bool) {
	if !IsFormat(f) {
		return 0, false
	}
	return 1<<(f.Exponent-1) - 1, true
}

// FieldsOf returns the sign, the exponent field and the fraction field.
func FieldsOf(f Format, p int) (int, int, int, bool) {
	if !isPattern(f, p) {
		return 0, 0, 0, false
	}
	x := fieldsOf(f, p)
	return x[atSign], x[atExponent], x[atFraction], true
}

// PatternOf returns the pattern with given fields.
func PatternOf(f Format, sign int, exponent int, fraction int) (int, bool) {
	if !IsFormat(f) || sign < 0 || sign > 1 ||
		exponent < 0 || exponent > exponentOnes(f) ||
		fraction < 0 || fraction > fractionOnes(f) {
		return 0, false
	}
	return patternOf(f, fields{sign, exponent, fraction}), true
}

// KindOf returns 0 for zeros, 1 for subnormal, 2 for normal and 3 for infinite patterns, and 4 for no numbers.
func KindOf(f Format, p int) (int, bool) {
	if !isPattern(f, p) {
		return 0, false
	}
	questions := [noNumberKind]func(shape) bool{
		shape.isZero, shape.isSubnormal, shape.isNormal, shape.isInfinite,
	}
	for kind, question := range questions {
		if question(shapeOf(f, p)) {
			return kind, true
		}
	}
	return noNumberKind, true
}

// UnitsOf returns the value of a finite pattern in units.
func UnitsOf(f Format, p int) (int, bool) {
	if !has(f, p, shape.isFinite) {
		return 0, false
	}
	x := fieldsOf(f, p)
	units := int(floatOf(f, x))
	if x[atSign] == 1 {
		units = -units
	}
	return units, true
}

// PatternOfUnits returns the pattern with a value of u units, sign 0 for 0. It fails if there is none.
func PatternOfUnits(f Format, u int) (int, bool) {
	// The size of the least int is less than 0, and refused like all others
	// out of range.
	p, ok := NearestBelow(f, max(u, -u))
	if !ok {
		return 0, false
	}
	if u < 0 {
		p += signBit(f)
	}
	if units, _ := UnitsOf(f, p); units != u {
		return 0, false
	}
	return p, true
}

// NearestBelow returns the pattern with the greatest value of at most u units, u in 0..MaxUnits.
func NearestBelow(f Format, u int) (int, bool) {
	if !IsFormat(f) || u < 0 || u > MaxUnits {
		return 0, false
	}
	greatest, _ := GreatestOf(f)
	most, _ := UnitsOf(f, greatest)
	size := frontPlaces(min(u, most), 1+f.Fraction)
	return patternOf(f, fieldsOfFloat(f, float32(size))), true
}

// NegateOf returns the pattern with the other sign.
func NegateOf(f Format, p int) (int, bool) {
	if !isPattern(f, p) {
		return 0, false
	}
	return p ^ signBit(f), true
}

// AbsOf returns the pattern with the sign 0.
func AbsOf(f Format, p int) (int, bool) {
	if !isPattern(f, p) {
		return 0, false
	}
	return p % signBit(f), true
}

// NextUp returns the pattern with the least greater value: from a zero the unit, from the greatest value plus infinite, from minus infinite the least finite value, from the negative unit the zero with the sign 1. It fails for plus infinite and for no numbers.
func NextUp(f Format, p int) (int, bool) {
	if !has(f, p, shape.isNumber) {
		return 0, false
	}
	switch s := shapeOf(f, p); {
	case s.isZero():
		return 1, true
	case s.fields[atSign] == 1:
		return p - 1, true
	case s.isInfinite():
		return 0, false
	}
	return p + 1, true
}

// NextDown returns the same downwards: NegateOf NextUp of NegateOf.
func NextDown(f Format, p int) (int, bool) {
	negated, ok := NegateOf(f, p)
	if !ok {
		return 0, false
	}
	up, ok := NextUp(f, negated)
	if !ok {
		return 0, false
	}
	return NegateOf(f, up)
}

// CompareOf returns -1, 0 or 1 if the first value is less than, the same as or greater than the second one; zeros are the same. It fails for no numbers.
func CompareOf(f Format, a int, b int) (int, bool) {
	first, ok := valueKey(f, a)
	if !ok {
		return 0, false
	}
	second, ok := valueKey(f, b)
	if !ok {
		return 0, false
	}
	return cmp.Compare(first, second), true
}

// valueKey is OrderKey, but the same for both zeros.
func valueKey(f Format, p int) (int, bool) {
	if has(f, p, shape.isZero) {
		return 0, true
	}
	return OrderKey(f, p)
}

// OrderKey returns a number that is greater for greater values, and 1 more from minus zero to zero: the pattern for the sign 0, and otherwise -1 less the pattern without its sign. It fails for no numbers.
func OrderKey(f Format, p int) (int, bool) {
	if !has(f, p, shape.isNumber) {
		return 0, false
	}
	if p >= signBit(f) {
		return -1 - p%signBit(f), true
	}
	return p, true
}

// GreatestOf returns the pattern with the greatest finite value.
func GreatestOf(f Format) (int, bool) {
	if !IsFormat(f) {
		return 0, false
	}
	return patternOf(f, fields{0, exponentOnes(f) - 1, fractionOnes(f)}), true
}

// LeastNormal returns the pattern with the least normal value greater than 0.
func LeastNormal(f Format) (int, bool) {
	if !IsFormat(f) {
		return 0, false
	}
	return patternOf(f, fields{0, 1, 0}), true
}

// StepUnits returns how many units the values with the same exponent field as a finite pattern are apart from each other: 1 for the exponent fields 0 and 1, and twice as much for each one more.
func StepUnits(f Format, p int) (int, bool) {
	if !has(f, p, shape.isFinite) {
		return 0, false
	}
	return 1 << max(fieldsOf(f, p)[atExponent]-1, 0), true
}

// CountKinds returns how many patterns of each of the five kinds there are, in order.
func CountKinds(f Format) ([]int, bool) {
	if !IsFormat(f) {
		return nil, false
	}
	besidesZero := 2 * fractionOnes(f)
	normal := 2 * (exponentOnes(f) - 1) << f.Fraction
	return []int{2, besidesZero, normal, 2, besidesZero}, true
}

// PatternText returns the sign, the exponent field and the fraction field as bits, with . between them.
func PatternText(f Format, p int) (string, bool) {
	if !isPattern(f, p) {
		return "", false
	}
	x := fieldsOf(f, p)
	return strings.Join([]string{
		bitText(x[atSign], 1),
		bitText(x[atExponent], f.Exponent),
		bitText(x[atFraction], f.Fraction),
	}, "."), true
}

func bitText(x int, width int) string {
	s := strconv.FormatInt(int64(x), 2)
	return strings.Repeat("0", width-len(s)) + s
}

// ParsePattern returns the pattern with a PatternText. It fails if there is none.
func ParsePattern(f Format, s string) (int, bool) {
	width, ok := WidthOf(f)
	if !ok || len(s) != width+2 {
		return 0, false
	}
	firstDot, secondDot := 1, 2+f.Exponent
	if s[firstDot] != '.' || s[secondDot] != '.' {
		return 0, false
	}
	return parseBits(s[:firstDot] + s[firstDot+1:secondDot] + s[secondDot+1:])
}

func parseBits(s string) (int, bool) {
	x := 0
	for i := range len(s) {
		if s[i] != '0' && s[i] != '1' {
			return 0, false
		}
		x = x<<1 | int(s[i]-'0')
	}
	return x, true
}
