package calib_test

import (
	"fmt"
	"math/big"
	"math/rand"
	"slices"
	"testing"

	"planisphere/api"
)

// most is the greatest pixel.
const most = api.MaxPixel

// field is a field of pixels, row by row.
func field(w, h int, p ...int64) api.Field { return api.Field{W: w, H: h, P: p} }

// row is a field of one row.
func row(p ...int64) api.Field { return field(len(p), 1, p...) }

// equal is a field of equal pixels.
func equal(w, h int, p int64) api.Field { return field(w, h, slices.Repeat([]int64{p}, w*h)...) }

// same reports whether two fields are equal.
func same(a, b api.Field) bool { return a.W == b.W && a.H == b.H && slices.Equal(a.P, b.P) }

// isNone reports whether a field is the zero value.
func isNone(f api.Field) bool { return f.W == 0 && f.H == 0 && len(f.P) == 0 }

// brief is a text for messages, of which long ones have the beginning.
func brief(x ...any) string {
	text := fmt.Sprint(x...)
	return text[:min(len(text), 300)]
}

// wants checks a field against the one that it should be.
func wants(t *testing.T, what string, got api.Field, e api.Errno, want api.Field) {
	t.Helper()
	if e != api.OK || !same(got, want) {
		t.Error(what, brief(got), e, "instead of", brief(want))
	}
}

// whole is a number of any size as api.Wide.
func whole(n *big.Int) api.Wide {
	w := api.Wide{Neg: n.Sign() < 0}
	for rest := new(big.Int).Abs(n); rest.Sign() > 0; rest.Rsh(rest, 32) {
		w.Mag = append(w.Mag, uint32(rest.Uint64()))
	}
	return w
}

// fraction is a number as api.Frac.
func fraction(x *big.Rat) api.Frac { return api.Frac{Num: whole(x.Num()), Den: whole(x.Denom())} }

// of is the valid fraction of small numbers.
func of(num, den int64) api.Frac { return fraction(big.NewRat(num, den)) }

// sameFrac reports whether two fractions have the same fields.
func sameFrac(a, b api.Frac) bool { return sameWide(a.Num, b.Num) && sameWide(a.Den, b.Den) }

func sameWide(a, b api.Wide) bool { return a.Neg == b.Neg && slices.Equal(a.Mag, b.Mag) }

// rats is a list as the tests reckon with it.
func rats(l []int64) []*big.Rat {
	var list []*big.Rat
	for _, x := range l {
		list = append(list, big.NewRat(x, 1))
	}
	return list
}

// mean is the mean.
func mean(l []*big.Rat) *big.Rat {
	sum := new(big.Rat)
	for _, x := range l {
		sum.Add(sum, x)
	}
	return sum.Quo(sum, big.NewRat(int64(len(l)), 1))
}

// median is the median.
func median(l []int64) *big.Rat {
	l = slices.Clone(l)
	slices.Sort(l)
	return mean(rats([]int64{l[(len(l)-1)/2], l[len(l)/2]}))
}

// trimmed is the mean of what clipping leaves.
func trimmed(l []int64, k *big.Rat) *big.Rat {
	left := rats(l)
	for {
		middle := mean(left)
		var squares []*big.Rat
		for _, x := range left {
			gap := new(big.Rat).Sub(x, middle)
			squares = append(squares, gap.Mul(gap, gap))
		}
		limit := mean(squares)
		limit.Mul(limit, k).Mul(limit, k)
		var rest []*big.Rat
		for i, x := range left {
			if squares[i].Cmp(limit) <= 0 {
				rest = append(rest, x)
			}
		}
		if len(rest) == len(left) {
			return middle
		}
		left = rest
	}
}

// rounded is the nearest whole number, and of two the even one.
func rounded(x *big.Rat) *big.Int {
	// The number less than a half above it, and whether it is just a half.
	twice := new(big.Rat).Mul(x, big.NewRat(2, 1))
	up := new(big.Int).Add(twice.Num(), twice.Denom())
	n := up.Div(up, new(big.Int).Mul(twice.Denom(), big.NewInt(2)))
	if twice.IsInt() && twice.Num().Bit(0) == 1 && n.Bit(0) == 1 {
		n.Sub(n, big.NewInt(1))
	}
	return n
}

// filled is the field of rounded numbers, or whether one has no place in it.
func filled(w, h int, at func(i int) *big.Rat) (f api.Field, fits bool) {
	f = field(w, h)
	for i := range w * h {
		p := rounded(at(i))
		if !p.IsInt64() || p.Int64() < -most || p.Int64() > most {
			return api.Field{}, false
		}
		f.P = append(f.P, p.Int64())
	}
	return f, true
}

// pixel is a pixel of at most so many binary digits, or one at a limit.
func pixel(r *rand.Rand, digits int) int64 {
	switch r.Intn(12) {
	case 0:
		return most
	case 1:
		return -most
	}
	return r.Int63n(2<<digits+1) - 1<<digits
}

// random is a field of pixels of at most so many binary digits, and some at
// the limits.
func random(r *rand.Rand, w, h, digits int) api.Field {
	f := field(w, h)
	for range w * h {
		f.P = append(f.P, pixel(r, digits))
	}
	return f
}

// plain is a field of pixels of at most so many binary digits.
func plain(r *rand.Rand, w, h, digits int) api.Field {
	f := field(w, h)
	for range w * h {
		f.P = append(f.P, r.Int63n(2<<digits+1)-1<<digits)
	}
	return f
}

// sizes are widths and heights of fields.
func sizes() [][2]int {
	return [][2]int{{1, 1}, {1, 1}, {2, 1}, {1, 2}, {5, 1}, {1, 4}, {3, 2}, {2, 3}, {4, 4}, {7, 3}}
}

// bads are fields that are not valid.
func bads() []api.Field {
	large := equal(100, 100, 5)
	large.P[9999] = most + 1
	long := equal(100, 100, 5)
	long.P = append(long.P, 5)
	return []api.Field{
		{}, {W: 1, H: 1}, {W: 1, H: 0}, {W: 0, H: 1}, {W: -1, H: -1, P: []int64{1}}, {W: 2, H: 2, P: []int64{1, 2, 3}},
		field(2, 2, 1, 2, 3, 4, 5), field(2, 1, 1), field(1, 2, 1), equal(101, 1, 1), equal(1, 101, 1), equal(101, 101, 1), equal(200, 50, 1),
		{W: -2, H: -3, P: make([]int64, 6)}, {W: 1 << 32, H: 1 << 32}, {W: -1 << 63, H: 2}, {W: 1<<62 + 1, H: 4, P: make([]int64, 4)},
		row(most + 1), row(-most - 1), row(0, 1, 2, -1<<63), row(1<<63-1, 0), field(1, 2, 3, most+1), field(2, 2, 1, most+1, 2, 3),
		large, long, equal(100, 99, -most-1), {W: 100, H: 100, P: large.P[:9999]},
	}
}

// badFactors are fractions that are no factor of clipping.
func badFactors() []api.Frac {
	one, two := whole(big.NewInt(1)), whole(big.NewInt(2))
	tiny := big.NewRat(1, 1)
	tiny.SetFrac(big.NewInt(1), new(big.Int).Lsh(big.NewInt(1), 100000))
	return []api.Frac{
		{}, {Num: one}, {Den: two}, {Num: two, Den: two}, {Num: two, Den: api.Wide{Neg: true, Mag: []uint32{1}}},
		{Num: api.Wide{Mag: []uint32{2, 0}}, Den: one}, {Num: api.Wide{Mag: slices.Repeat([]uint32{1}, api.MaxLimbs+1)}, Den: one},
		of(0, 1), of(1, 2), of(-2, 1), of(999, 1000), of(1001, 1), of(100001, 100), of(1<<62, 1), of(-1<<62, 3),
		fraction(new(big.Rat).Sub(big.NewRat(1, 1), tiny)), fraction(new(big.Rat).Add(big.NewRat(1000, 1), tiny)),
		fraction(tiny), fraction(new(big.Rat).Neg(tiny)), fraction(new(big.Rat).Inv(tiny)),
	}
}
