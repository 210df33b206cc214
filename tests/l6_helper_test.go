package tests

import (
	"cmp"
	"math"
	"math/big"
	"math/bits"
	"strconv"
	"strings"
	"sync"

	"loop.example/g01178/impl"
)

// decimal is digits times 10^ten.
type decimal struct {
	digits, ten int
}

func (d decimal) isValid() bool {
	return d.digits >= 0 && d.digits <= 999999 && d.ten >= -14 && d.ten <= 14
}

// tenTo returns 10^n, and 1 for n less than 0.
func tenTo(n int) int {
	power := 1
	for range n {
		power *= 10
	}
	return power
}

// compare compares a decimal with a value or a midpoint of any format: 2^25 times
// such is a whole number, and both sides have room in 128 bits.
func (d decimal) compare(size float64) int {
	high, low := bits.Mul64(uint64(d.digits)<<25, uint64(tenTo(d.ten)))
	otherHigh, otherLow := bits.Mul64(uint64(math.Ldexp(size, 25)), uint64(tenTo(-d.ten)))
	return cmp.Or(cmp.Compare(high, otherHigh), cmp.Compare(low, otherLow))
}

// distance returns how far a decimal is from a size.
func (d decimal) distance(size float64) *big.Rat {
	exact := big.NewRat(int64(d.digits), int64(tenTo(-d.ten)))
	exact.Mul(exact, big.NewRat(int64(tenTo(d.ten)), 1))
	return exact.Abs(exact.Sub(exact, new(big.Rat).SetFloat64(size)))
}

// nearer reports whether d is nearer to a size than another one, or as near and
// the lesser one.
func (d decimal) nearer(other decimal, size float64) bool {
	order := d.distance(size).Cmp(other.distance(size))
	return order < 0 || order == 0 && d.compare(size) < other.compare(size)
}

// places returns how many places digits have.
func (d decimal) places() int {
	return len(strconv.Itoa(d.digits))
}

// text puts digits and ten as the document tells.
func (d decimal) text() string {
	return strconv.Itoa(d.digits) + "e" + strconv.Itoa(d.ten)
}

// read returns the pattern to which a decimal is rounded.
func (r ruler) read(d decimal, mode int) int {
	return r.round(0, d.compare, mode)
}

// decimalAt returns the decimal with just so many places that is nearest to a
// size, of two as near the one with even digits.
func decimalAt(size float64, places int) decimal {
	if size == 0 {
		return decimal{}
	}
	front, behind, _ := strings.Cut(strconv.FormatFloat(size, 'e', places-1, 64), "e")
	digits, _ := strconv.Atoi(strings.ReplaceAll(front, ".", ""))
	ten, _ := strconv.Atoi(behind)
	return decimal{digits, ten - places + 1}
}

// decimalsNear returns decimals at and around a size, with each number of places.
func decimalsNear(size float64) []decimal {
	var list []decimal
	for places := range impl.MaxPlaces {
		nearest := decimalAt(size, places+1)
		for _, by := range []int{-1, 0, 1} {
			if d := (decimal{nearest.digits + by, nearest.ten}); d.isValid() {
				list = append(list, d)
			}
		}
	}
	return list
}

// decimalsAtBounds has decimals with few and many places and all tens.
func decimalsAtBounds() []decimal {
	var list []decimal
	for ten := -impl.MaxTen; ten <= impl.MaxTen; ten++ {
		for _, digits := range []int{0, 1, 2, 5, 9, 10, 17, 42, 99, 100, 4096, 12345, 65504, 99999, 100000, 390625, 500000, 999998, 999999} {
			list = append(list, decimal{digits, ten})
		}
	}
	return list
}

func notDecimals() []decimal {
	list := []decimal{{-1, 0}, {-1, 14}, {-5, -3}, {1000000, 0}, {1000000, -14}, {1000001, 3}, {0, 15}, {0, -15}, {1, 15}, {1, -15}, {999999, 15}, {999999, -15}}
	for _, n := range []int{math.MinInt, math.MinInt + 1, -1 << 40, -1000000, 1 << 40, math.MaxInt} {
		list = append(list, decimal{n, 0}, decimal{n, -14}, decimal{0, n}, decimal{1, n}, decimal{n, n})
	}
	return list
}

// lookedAt returns the sizes at which tests of decimals look, without the one
// behind the greatest value: all of them where there are not too many.
func (r ruler) lookedAt() []int {
	list := somePatterns(r.f)
	if widthOf(r.f) <= 12 {
		list = allPatterns(r.f)
	}
	var sizes []int
	for _, p := range list {
		if p < len(r.sizes)-1 {
			sizes = append(sizes, p)
		}
	}
	return sizes
}

// shortests has, for each format and each finite pattern with the sign 0, the
// decimal that is told for its shortest one.
var shortests = sync.OnceValue(func() map[impl.Format][]decimal {
	all := map[impl.Format][]decimal{}
	for f, r := range rulers() {
		all[f] = r.shortest()
	}
	return all
})

// shortest goes through all decimals with one place, with two, and so on, and
// keeps the best one for the pattern to which each is rounded, until all have
// one. A size of 0 has digits and ten of 0.
func (r ruler) shortest() []decimal {
	best := make([]decimal, len(r.sizes)-1)
	missing := len(best) - 1
	for places := 1; missing > 0; places++ {
		for ten := -impl.MaxTen; ten <= impl.MaxTen; ten++ {
			missing -= r.improve(best, places, ten)
		}
	}
	return best
}

// improve returns how many patterns have no better one before.
func (r ruler) improve(best []decimal, places, ten int) int {
	found := 0
	for digits := tenTo(places - 1); digits < tenTo(places); digits++ {
		d := decimal{digits, ten}
		if digits%10 == 0 || d.compare(r.sizes[1]/2) < 0 || d.compare(r.sizes[len(best)]) > 0 {
			continue
		}
		p := r.read(d, impl.ModeEven)
		if p == 0 || p >= len(best) {
			continue
		}
		if best[p] == (decimal{}) {
			found++
			best[p] = d
		} else if best[p].places() == places && d.nearer(best[p], r.sizes[p]) {
			best[p] = d
		}
	}
	return found
}

// exactText has all places of a value. None has more than 25 behind the point.
func exactText(x float64) string {
	return strings.TrimSuffix(strings.TrimRight(strconv.FormatFloat(x, 'f', 40, 64), "0"), ".")
}

// finiteWith returns the pattern with a value, with its sign for a zero, too.
func finiteWith(f impl.Format, x float64) int {
	r := rulers()[f]
	p := r.float(x, impl.ModeEven)
	if r.values[p] != x {
		panic("no value: " + exactText(x))
	}
	return p
}
