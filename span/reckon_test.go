package span_test

import (
	"math"
	"math/big"
	"math/rand"
	"testing"

	"planisphere/api"
	"planisphere/span"
)

// P3.3: Add, Sub, Mul and Div.
func TestReckoning(t *testing.T) {
	list := samples(31, 15)
	for _, a := range list {
		for _, b := range list {
			got, e := span.Add(a, b)
			want(t, "Add", got, e, eachTwo(a, b, (*big.Rat).Add))
			got, e = span.Sub(a, b)
			want(t, "Sub", got, e, eachTwo(a, b, (*big.Rat).Sub))
			got, e = span.Mul(a, b)
			want(t, "Mul", got, e, eachTwo(a, b, (*big.Rat).Mul))
			got, e = span.Div(a, b)
			if b.Lo <= 0 && b.Hi >= 0 {
				is(t, "Div by 0", got, e, api.Iv{}, api.ErrZero)
			} else {
				want(t, "Div", got, e, eachTwo(a, b, (*big.Rat).Quo))
			}
		}
	}
}

// P3.3: products, quotients, and a few others whose ends are known.
func TestKnown(t *testing.T) {
	for _, x := range []struct {
		call string
		a, b api.Iv
		want api.Iv
	}{
		{"Add", ones(-1, 2), ones(3, 4), ones(2, 6)},
		{"Sub", ones(-1, 2), ones(3, 4), ones(-5, -1)},
		{"Sub", ones(1, 2), ones(1, 2), ones(-1, 1)},
		{"Mul", ones(-1, 2), ones(3, 4), ones(-4, 8)},
		{"Mul", ones(-1, 2), ones(-3, 4), ones(-6, 8)},
		{"Mul", ones(-3, -2), ones(-5, -4), ones(8, 15)},
		{"Mul", ones(-3, -2), ones(4, 5), ones(-15, -8)},
		{"Mul", ones(0, 2), ones(-5, 7), ones(-10, 14)},
		{"Mul", ones(0, 0), api.Iv{Lo: -most, Hi: most}, api.Iv{}},
		{"Mul", single(1), single(1), api.Iv{Hi: 1}},
		{"Mul", single(1), single(-1), api.Iv{Lo: -1}},
		{"Mul", single(3), single(one / 2), api.Iv{Lo: 1, Hi: 2}},
		{"Mul", single(-3), single(one / 2), api.Iv{Lo: -2, Hi: -1}},
		{"Mul", single(4), single(one / 2), single(2)},
		{"Mul", single(most), single(1), single(1 << 21)},
		{"Div", ones(-4, 8), ones(-2, -2), ones(-4, 2)},
		{"Div", ones(1, 2), ones(4, 8), api.Iv{Lo: one / 8, Hi: one / 2}},
		{"Div", ones(-2, 1), ones(1, 2), ones(-2, 1)},
		{"Div", ones(1, 1), ones(3, 3), api.Iv{Lo: 366503875925, Hi: 366503875926}},
		{"Div", ones(-1, 0), ones(3, 3), api.Iv{Lo: -366503875926}},
		{"Div", ones(0, 0), single(1), api.Iv{}},
		{"Div", single(1), single(most), api.Iv{Hi: 1}},
		{"Div", single(1), single(-most), api.Iv{Lo: -1}},
	} {
		got, e := binaries()[x.call](x.a, x.b)
		is(t, x.call, got, e, x.want, api.OK)
	}
}

// P3.3: ErrZero if a divisor has 0, and before ErrRange.
func TestDivZero(t *testing.T) {
	for _, a := range []api.Iv{{}, ones(1, 1), ones(-2, 3), single(most), {Lo: -most, Hi: most}} {
		for _, b := range []api.Iv{{}, {Hi: 1}, {Lo: -1}, {Lo: -1, Hi: 1}, ones(0, 1), ones(-1, 0), {Lo: -most, Hi: most}} {
			got, e := span.Div(a, b)
			is(t, "Div", got, e, api.Iv{}, api.ErrZero)
		}
	}
}

// P3.3: Neg, Sq and Abs.
func TestUnary(t *testing.T) {
	for _, a := range samples(32, 500) {
		got, e := span.Neg(a)
		want(t, "Neg", got, e, each(a, func(x *big.Rat) *big.Rat { return new(big.Rat).Neg(x) }))
		got, e = span.Abs(a)
		want(t, "Abs", got, e, each(a, func(x *big.Rat) *big.Rat { return new(big.Rat).Abs(x) }))
		got, e = span.Sq(a)
		want(t, "Sq", got, e, each(a, func(x *big.Rat) *big.Rat { return new(big.Rat).Mul(x, x) }))
	}
}

// P3.3: squares and absolute values whose ends are known.
func TestKnownUnary(t *testing.T) {
	for _, x := range []struct {
		call    string
		a, want api.Iv
		e       api.Errno
	}{
		{"Neg", ones(-3, 2), ones(-2, 3), api.OK},
		{"Neg", api.Iv{Lo: -most, Hi: most}, api.Iv{Lo: -most, Hi: most}, api.OK},
		{"Abs", ones(-3, 2), ones(0, 3), api.OK},
		{"Abs", ones(-3, -2), ones(2, 3), api.OK},
		{"Abs", ones(2, 3), ones(2, 3), api.OK},
		{"Abs", ones(-3, 0), ones(0, 3), api.OK},
		{"Abs", single(-most), single(most), api.OK},
		{"Sq", ones(-1, 2), ones(0, 4), api.OK},
		{"Sq", ones(-3, 2), ones(0, 9), api.OK},
		{"Sq", ones(-3, -2), ones(4, 9), api.OK},
		{"Sq", ones(0, 3), ones(0, 9), api.OK},
		{"Sq", single(-1), api.Iv{Hi: 1}, api.OK},
		{"Sq", single(1 << 20), single(1), api.OK},
		{"Sq", single(-1<<20 - 1), api.Iv{Lo: 1, Hi: 2}, api.OK},
		// The square of 2^50.5 is MaxIv.
		{"Sq", single(1592262918131443), api.Iv{Lo: most - 409, Hi: most - 408}, api.OK},
		{"Sq", single(-1592262918131444), api.Iv{}, api.ErrRange},
		{"Sq", api.Iv{Lo: -most}, api.Iv{}, api.ErrRange},
		{"Sq", single(most), api.Iv{}, api.ErrRange},
	} {
		got, e := unaries()[x.call](x.a)
		is(t, x.call, got, e, x.want, x.e)
	}
}

// root is the number of units of the square root of a number of units, rounded
// down or up.
func root(n int64, up bool) *big.Rat {
	x := new(big.Int).Lsh(big.NewInt(n), 40)
	r := new(big.Int).Sqrt(x)
	if up && new(big.Int).Mul(r, r).Cmp(x) < 0 {
		r.Add(r, big.NewInt(1))
	}
	return number(r.Int64())
}

// P3.3: Sqrt.
func TestSqrt(t *testing.T) {
	for _, a := range samples(33, 3000) {
		got, e := span.Sqrt(a)
		if a.Lo < 0 {
			is(t, "Sqrt", got, e, api.Iv{}, api.ErrArg)
			continue
		}
		want(t, "Sqrt", got, e, []*big.Rat{root(a.Lo, false), root(a.Hi, true)})
	}
	for _, x := range []struct{ a, want api.Iv }{
		{ones(2, 2), api.Iv{Lo: 1554944255987, Hi: 1554944255988}},
		{ones(4, 9), ones(2, 3)},
		{api.Iv{}, api.Iv{}},
		{single(1), single(1 << 20)},
		{api.Iv{Hi: 4}, api.Iv{Hi: 1 << 21}},
	} {
		got, e := span.Sqrt(x.a)
		is(t, "Sqrt", got, e, x.want, api.OK)
	}
}

// P3.3: roots of squares, and of the numbers next to them.
func TestSqrtExact(t *testing.T) {
	r := rand.New(rand.NewSource(34))
	for range 2000 {
		n := r.Int63n(1 << (1 + r.Intn(30)))
		got, e := span.Sqrt(single(n * n))
		is(t, "Sqrt of a square", got, e, single(n<<20), api.OK)
		for _, near := range []int64{max(n*n-1, 0), n*n + 1} {
			got, e := span.Sqrt(single(near))
			want(t, "Sqrt next to a square", got, e, []*big.Rat{root(near, false), root(near, true)})
		}
	}
}

// P3.3: Scale.
func TestScale(t *testing.T) {
	numbers := []int64{0, 1, -1, 2, -3, 10, one, 1 - one, 1 << 62, most, -most, math.MaxInt64, -math.MaxInt64, math.MinInt64, math.MinInt64 + 1}
	r := rand.New(rand.NewSource(35))
	for range 10 {
		numbers = append(numbers, random(r))
	}
	for _, a := range samples(36, 15) {
		for _, num := range numbers {
			for _, den := range numbers {
				got, e := span.Scale(a, num, den)
				if den == 0 {
					is(t, "Scale by 0", got, e, api.Iv{}, api.ErrZero)
					continue
				}
				by := big.NewRat(num, den)
				want(t, "Scale", got, e, each(a, func(x *big.Rat) *big.Rat { return new(big.Rat).Mul(x, by) }))
			}
		}
	}
}

// P3.3: scaled intervals whose ends are known.
func TestKnownScale(t *testing.T) {
	least := int64(math.MinInt64)
	for _, x := range []struct {
		a        api.Iv
		num, den int64
		want     api.Iv
		e        api.Errno
	}{
		{api.Iv{Lo: 1, Hi: 2}, -1, 3, api.Iv{Lo: -1}, api.OK},
		{api.Iv{Lo: 1, Hi: 2}, 1, -3, api.Iv{Lo: -1}, api.OK},
		{api.Iv{Lo: 1, Hi: 2}, 3, 2, api.Iv{Lo: 1, Hi: 3}, api.OK},
		{api.Iv{Lo: -6, Hi: 4}, -1, 2, api.Iv{Lo: -2, Hi: 3}, api.OK},
		{ones(-2, 3), 0, -5, api.Iv{}, api.OK},
		{ones(-2, 3), least, least, ones(-2, 3), api.OK},
		{single(2), least, math.MaxInt64, api.Iv{Lo: -3, Hi: -2}, api.OK},
		{api.Iv{Lo: -most, Hi: most}, 1, least, api.Iv{Lo: -1, Hi: 1}, api.OK},
		{single(1), most, 1, single(most), api.OK},
		{single(-1), most + 1, 1, api.Iv{}, api.ErrRange},
		{single(1), least, 1, api.Iv{}, api.ErrRange},
		{single(most), math.MaxInt64, -1, api.Iv{}, api.ErrRange},
		{single(most), 1, 0, api.Iv{}, api.ErrZero},
		{single(most), math.MaxInt64, 0, api.Iv{}, api.ErrZero},
		{api.Iv{}, 0, 0, api.Iv{}, api.ErrZero},
	} {
		got, e := span.Scale(x.a, x.num, x.den)
		is(t, "Scale", got, e, x.want, x.e)
	}
}
