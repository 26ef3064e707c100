package span_test

import (
	"math"
	"math/big"
	"math/rand"
	"testing"

	"planisphere/api"
	"planisphere/frac"
	"planisphere/span"
	"planisphere/wide"
)

const (
	one  = api.One
	most = api.MaxIv
)

// single is the interval that has just a number of units.
func single(n int64) api.Iv { return api.Iv{Lo: n, Hi: n} }

// ones is an interval of whole numbers.
func ones(lo, hi int64) api.Iv { return api.Iv{Lo: lo * one, Hi: hi * one} }

// bad are intervals that are not valid.
func bad() []api.Iv {
	return []api.Iv{
		{Lo: 1}, {Hi: -1}, {Lo: 5, Hi: 4}, {Lo: one, Hi: -one}, {Lo: most, Hi: -most},
		{Hi: most + 1}, {Lo: most + 1, Hi: most + 1}, {Lo: most, Hi: math.MaxInt64}, single(math.MaxInt64),
		{Lo: -most - 1}, {Lo: -most - 1, Hi: -most - 1}, {Lo: math.MinInt64, Hi: -most}, single(math.MinInt64),
		{Lo: math.MinInt64, Hi: math.MaxInt64}, {Lo: math.MaxInt64, Hi: math.MinInt64},
	}
}

// samples are intervals, those with extreme ends first.
func samples(seed int64, count int) []api.Iv {
	list := []api.Iv{
		{}, single(1), single(-1), {Lo: -1, Hi: 1}, {Hi: 1}, {Lo: -1}, {Lo: 2, Hi: 3}, {Lo: -7, Hi: -2},
		ones(1, 1), ones(-1, -1), ones(-1, 1), ones(0, 1), ones(-1, 0), ones(2, 5), ones(-5, -2), ones(-3, 2),
		{Lo: one - 1, Hi: one + 1}, {Lo: -one - 1, Hi: 1 - one}, {Lo: -1, Hi: one}, {Lo: -one, Hi: 1},
		single(most), single(-most), {Lo: -most, Hi: most}, {Hi: most}, {Lo: -most}, {Lo: 1, Hi: most},
		{Lo: -most, Hi: -1}, {Lo: most - 1, Hi: most}, {Lo: -most, Hi: 1 - most}, {Lo: -most / 2, Hi: most / 2},
	}
	r := rand.New(rand.NewSource(seed))
	for range count {
		a, b := random(r), random(r)
		list = append(list, api.Iv{Lo: min(a, b), Hi: max(a, b)}, single(random(r)))
		if near := a + r.Int63n(9); near <= most {
			list = append(list, api.Iv{Lo: a, Hi: near})
		}
	}
	return list
}

// random is an end with any number of binary digits.
func random(r *rand.Rand) int64 {
	n := r.Int63n(1 << r.Intn(62))
	if r.Intn(2) == 0 {
		return -n
	}
	return n
}

// number is what a number of units stands for.
func number(units int64) *big.Rat { return big.NewRat(units, one) }

// points are numbers of an interval: both ends, 0 if it has it, and two others.
func points(a api.Iv) []*big.Rat {
	list := []*big.Rat{number(a.Lo), number(a.Hi)}
	if a.Lo < 0 && a.Hi > 0 {
		list = append(list, new(big.Rat))
	}
	length := new(big.Rat).Sub(list[1], list[0])
	if length.Sign() == 0 {
		return list
	}
	for _, share := range []*big.Rat{big.NewRat(1, 3), big.NewRat(12345, 12347)} {
		x := share.Mul(share, length)
		list = append(list, x.Add(x, list[0]))
	}
	return list
}

// each returns what an operation makes of points of an interval.
func each(a api.Iv, operate func(x *big.Rat) *big.Rat) []*big.Rat {
	var list []*big.Rat
	for _, x := range points(a) {
		list = append(list, operate(x))
	}
	return list
}

// eachTwo returns what an operation makes of points of two intervals.
func eachTwo(a, b api.Iv, operate func(z, x, y *big.Rat) *big.Rat) []*big.Rat {
	var list []*big.Rat
	for _, x := range points(a) {
		for _, y := range points(b) {
			list = append(list, operate(new(big.Rat), x, y))
		}
	}
	return list
}

// floor is the greatest number of units that is not greater than x.
func floor(x *big.Rat) *big.Int {
	units := new(big.Rat).Mul(x, big.NewRat(one, 1))
	return new(big.Int).Div(units.Num(), units.Denom())
}

// ceil is the least number of units that is not less than x.
func ceil(x *big.Rat) *big.Int {
	n := floor(new(big.Rat).Neg(x))
	return n.Neg(n)
}

// least is the least interval of numbers, or ErrRange.
func least(list []*big.Rat) (api.Iv, api.Errno) {
	lo, hi := floor(list[0]), ceil(list[0])
	for _, x := range list {
		if n := floor(x); n.Cmp(lo) < 0 {
			lo = n
		}
		if n := ceil(x); n.Cmp(hi) > 0 {
			hi = n
		}
	}
	if lo.Cmp(big.NewInt(-most)) < 0 || hi.Cmp(big.NewInt(most)) > 0 {
		return api.Iv{}, api.ErrRange
	}
	return api.Iv{Lo: lo.Int64(), Hi: hi.Int64()}, api.OK
}

// want checks a result, which should be the least interval of numbers.
func want(t *testing.T, what string, got api.Iv, e api.Errno, list []*big.Rat) {
	t.Helper()
	if x, f := least(list); got != x || e != f {
		t.Error(what, got, e, "instead of", x, f)
	}
}

// is checks a result and its error, with which it should be 0.
func is(t *testing.T, what string, got api.Iv, e api.Errno, x api.Iv, f api.Errno) {
	t.Helper()
	if got != x || e != f {
		t.Error(what, got, e, "instead of", x, f)
	}
}

// fraction is the valid fraction of a number that has one.
func fraction(x *big.Rat) api.Frac {
	return api.Frac{Num: whole(x.Num()), Den: whole(x.Denom())}
}

// whole is a number of any size as api.Wide.
func whole(n *big.Int) api.Wide {
	w, e := wide.Parse(n.String())
	if e != api.OK {
		panic("a number without a valid form")
	}
	return w
}

// The calls of functions of one interval, and of two, with ordinary other
// arguments, as those that return intervals.
type unary func(a api.Iv) (api.Iv, api.Errno)
type binary func(a, b api.Iv) (api.Iv, api.Errno)

func asInt(n int64, e api.Errno) (api.Iv, api.Errno) { return single(n), e }

func asBool(yes bool, e api.Errno) (api.Iv, api.Errno) {
	if yes {
		return single(1), e
	}
	return api.Iv{}, e
}

func asOrder(n int, e api.Errno) (api.Iv, api.Errno) { return asInt(int64(n), e) }

func unaries() map[string]unary {
	return map[string]unary{
		"Neg":   span.Neg,
		"Sq":    span.Sq,
		"Sqrt":  span.Sqrt,
		"Abs":   span.Abs,
		"Scale": func(a api.Iv) (api.Iv, api.Errno) { return span.Scale(a, -2, 3) },
		"Mid":   func(a api.Iv) (api.Iv, api.Errno) { return asInt(span.Mid(a)) },
	}
}

func binaries() map[string]binary {
	return map[string]binary{
		"Add":  span.Add,
		"Sub":  span.Sub,
		"Mul":  span.Mul,
		"Div":  span.Div,
		"Min":  span.Min,
		"Max":  span.Max,
		"Hull": span.Hull,
		"Meet": span.Meet,
		"In":   func(a, b api.Iv) (api.Iv, api.Errno) { return asBool(span.In(a, b)) },
		"Cmp":  func(a, b api.Iv) (api.Iv, api.Errno) { return asOrder(span.Cmp(a, b)) },
	}
}

// huge is 2^131071 / 1, the double of which has no valid form.
func huge() api.Frac {
	f, _ := frac.Of(1, 1)
	f.Num, _ = wide.Shift(f.Num, 131071)
	return f
}
