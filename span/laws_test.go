package span_test

import (
	"math/big"
	"math/rand"
	"testing"

	"planisphere/api"
	"planisphere/span"
)

// inside is a number of an interval: an end, or any fraction between.
func inside(r *rand.Rand, a api.Iv) *big.Rat {
	parts := int64(1 + r.Intn(1000))
	x := number(a.Hi)
	x.Sub(x, number(a.Lo))
	x.Mul(x, big.NewRat(r.Int63n(parts+1), parts))
	return x.Add(x, number(a.Lo))
}

// part is an interval that another one has.
func part(r *rand.Rand, a api.Iv) api.Iv {
	x, y := floor(inside(r, a)).Int64(), floor(inside(r, a)).Int64()
	return api.Iv{Lo: min(x, y), Hi: max(x, y)}
}

// has reports whether an interval has a number.
func has(a api.Iv, x *big.Rat) bool {
	return number(a.Lo).Cmp(x) <= 0 && x.Cmp(number(a.Hi)) <= 0
}

// exact are the operations on numbers; Div is only asked for numbers other
// than 0.
func exact(call string, x, y *big.Rat) *big.Rat {
	z := new(big.Rat)
	switch call {
	case "Add":
		return z.Add(x, y)
	case "Sub":
		return z.Sub(x, y)
	case "Mul":
		return z.Mul(x, y)
	case "Div":
		return z.Quo(x, y)
	case "Min":
		return lesser(z, x, y)
	case "Max":
		return greater(z, x, y)
	case "Neg":
		return z.Neg(x)
	case "Abs":
		return z.Abs(x)
	case "Sq":
		return z.Mul(x, x)
	case "Scale":
		return z.Mul(x, big.NewRat(-2, 3))
	}
	return x
}

// P3.6: a result has the exact result for all numbers of its arguments, and a
// part of an interval has a part of the result.
func TestConsequences(t *testing.T) {
	calls := binaries()
	for _, name := range []string{"Neg", "Abs", "Sq", "Scale"} {
		calls[name] = func(a, _ api.Iv) (api.Iv, api.Errno) { return unaries()[name](a) }
	}
	for _, name := range []string{"Meet", "In", "Cmp"} {
		delete(calls, name)
	}
	r := rand.New(rand.NewSource(61))
	list := samples(62, 60)
	for range 4000 {
		a, b := list[r.Intn(len(list))], list[r.Intn(len(list))]
		for name, call := range calls {
			all, e := call(a, b)
			if e != api.OK {
				continue
			}
			if x := exact(name, inside(r, a), inside(r, b)); !has(all, x) {
				t.Error(name, a, b, all, "does not have", x)
			}
			less, e := call(part(r, a), part(r, b))
			if isIn, _ := span.In(less, all); e != api.OK || !isIn {
				t.Error(name, a, b, all, "does not have", less, e)
			}
		}
	}
}

// P3.6: roots have the numbers whose squares are in an interval.
func TestRoots(t *testing.T) {
	r := rand.New(rand.NewSource(63))
	for _, a := range samples(64, 2000) {
		if a.Lo < 0 {
			continue
		}
		all, e := span.Sqrt(a)
		x := inside(r, a)
		lo, hi := exact("Sq", number(all.Lo), nil), exact("Sq", number(all.Hi), nil)
		if e != api.OK || lo.Cmp(x) > 0 || hi.Cmp(x) < 0 {
			t.Error("Sqrt", a, all, e, x)
		}
		less, e := span.Sqrt(part(r, a))
		if isIn, _ := span.In(less, all); e != api.OK || !isIn {
			t.Error("Sqrt", a, all, "does not have", less, e)
		}
	}
}

// P3.6: numbers that only one of two intervals has are in no Meet, and the
// others are.
func TestMeets(t *testing.T) {
	r := rand.New(rand.NewSource(65))
	list := samples(66, 60)
	for range 4000 {
		a, b := list[r.Intn(len(list))], list[r.Intn(len(list))]
		both, e := span.Meet(a, b)
		for _, x := range []*big.Rat{inside(r, a), inside(r, b)} {
			if isBoth := has(a, x) && has(b, x); isBoth != (e == api.OK && has(both, x)) {
				t.Error("Meet", a, b, both, e, x)
			}
		}
	}
}
