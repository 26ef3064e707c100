package frac_test

import (
	"math/big"
	"math/rand"
	"slices"
	"testing"

	"planisphere/api"
	"planisphere/frac"
	"planisphere/wide"
)

// whole is a number of any size as api.Wide.
func whole(n *big.Int) api.Wide {
	w, e := wide.Parse(n.String())
	if e != api.OK {
		panic("a number without a valid form")
	}
	return w
}

// number is what an api.Wide stands for.
func number(w api.Wide) *big.Int {
	text, e := wide.Text(w)
	if e != api.OK {
		panic("a number that is not valid")
	}
	n, _ := new(big.Int).SetString(text, 10)
	return n
}

// valid is the valid fraction of a number.
func valid(x *big.Rat) api.Frac {
	return api.Frac{Num: whole(x.Num()), Den: whole(x.Denom())}
}

// value is what a valid fraction stands for.
func value(f api.Frac) *big.Rat {
	return new(big.Rat).SetFrac(number(f.Num), number(f.Den))
}

// of is the valid fraction of small numbers.
func of(num, den int64) api.Frac {
	return valid(big.NewRat(num, den))
}

// zero is 0.
func zero() api.Frac { return of(0, 1) }

// power is 2^k.
func power(k int) api.Wide {
	mag := make([]uint32, k/32+1)
	mag[k/32] = 1 << (k % 32)
	return api.Wide{Mag: mag}
}

// greatest is the greatest valid number.
func greatest() api.Wide {
	return api.Wide{Mag: slices.Repeat([]uint32{1<<32 - 1}, api.MaxLimbs)}
}

// negative is the negative of a number.
func negative(w api.Wide) api.Wide {
	return api.Wide{Neg: !w.Neg, Mag: w.Mag}
}

// huge is 2^131071 / 1, whose double has no valid form; tiny is 1 / 2^131071.
func huge() api.Frac { return api.Frac{Num: power(131071), Den: wide.From(1)} }
func tiny() api.Frac { return api.Frac{Num: wide.From(1), Den: power(131071)} }

// minus is the negative of a fraction.
func minus(f api.Frac) api.Frac {
	return api.Frac{Num: negative(f.Num), Den: f.Den}
}

// bad are fractions that are not valid.
func bad() []api.Frac {
	one, long := wide.From(1), api.Wide{Mag: append(greatest().Mag, 1)}
	return []api.Frac{
		{},
		{Num: one},
		{Den: wide.From(2)},
		{Den: wide.From(-1)},
		{Num: one, Den: wide.From(-1)},
		{Num: one, Den: wide.From(-2)},
		{Num: wide.From(-3), Den: wide.From(-2)},
		{Num: wide.From(2), Den: wide.From(4)},
		{Num: wide.From(-15), Den: wide.From(25)},
		{Num: wide.From(7), Den: wide.From(7)},
		{Num: power(90), Den: power(70)},
		{Num: greatest(), Den: greatest()},
		{Num: api.Wide{Neg: true}, Den: one},
		{Num: api.Wide{Mag: []uint32{5, 0}}, Den: one},
		{Num: api.Wide{Mag: []uint32{5, 0}}, Den: wide.From(3)},
		{Num: one, Den: api.Wide{Mag: []uint32{1, 0}}},
		{Num: one, Den: api.Wide{Mag: []uint32{3, 0}}},
		{Num: one, Den: api.Wide{Mag: []uint32{0}}},
		{Num: long, Den: one},
		{Num: one, Den: long},
	}
}

// sameWide reports whether two numbers are the same, a nil list being empty.
func sameWide(a, b api.Wide) bool {
	return a.Neg == b.Neg && slices.Equal(a.Mag, b.Mag)
}

// same reports whether two fractions are the same.
func same(a, b api.Frac) bool {
	return sameWide(a.Num, b.Num) && sameWide(a.Den, b.Den)
}

// brief is a text of a fraction for messages.
func brief(f api.Frac) string {
	if len(f.Num.Mag)+len(f.Den.Mag) > 20 || wide.Check(f.Num) != api.OK || wide.Check(f.Den) != api.OK {
		return "a long or invalid fraction"
	}
	return number(f.Num).String() + "/" + number(f.Den).String()
}

// want checks a fraction against the valid one that it should be.
func want(t *testing.T, what string, got api.Frac, e api.Errno, f api.Frac) {
	t.Helper()
	if e != api.OK || !same(got, f) {
		t.Errorf("%s: %s and the error %d instead of %s", what, brief(got), e, brief(f))
	}
}

// fails checks that a result is an error, and else the zero value.
func fails(t *testing.T, what string, got api.Frac, e, f api.Errno) {
	t.Helper()
	if e != f {
		t.Errorf("%s: error %d instead of %d", what, e, f)
	}
	if !same(got, api.Frac{}) {
		t.Errorf("%s: a result with the error %d", what, f)
	}
}

// random returns a fraction whose numbers have at most so many binary digits.
func random(r *rand.Rand, digits int) api.Frac {
	num := new(big.Int).Rand(r, new(big.Int).Lsh(big.NewInt(1), uint(1+r.Intn(digits))))
	den := new(big.Int).Rand(r, new(big.Int).Lsh(big.NewInt(1), uint(r.Intn(digits))))
	if r.Intn(2) == 0 {
		num.Neg(num)
	}
	return valid(new(big.Rat).SetFrac(num, den.Add(den, big.NewInt(1))))
}

// smooth returns a fraction whose Den has divisors that many others have, too.
func smooth(r *rand.Rand, digits int) api.Frac {
	x := value(random(r, digits))
	for x.Denom().BitLen() < digits {
		factors := []int64{2, 3, 5, 6, 49, 1 << 31, 1<<32 - 1, 3486784401}
		x.Quo(x, big.NewRat(factors[r.Intn(len(factors))], 1))
		if r.Intn(4) == 0 {
			break
		}
	}
	return valid(x)
}

// samples are fractions, the small ones first.
func samples(seed int64, count, digits int) []api.Frac {
	r := rand.New(rand.NewSource(seed))
	var list []api.Frac
	for num := int64(-5); num <= 5; num++ {
		for den := int64(1); den <= 4; den++ {
			list = append(list, of(num, den))
		}
	}
	for range count {
		list = append(list, random(r, digits), smooth(r, digits))
	}
	return list
}

// eachPair calls a check for pairs of samples.
func eachPair(seed int64, count, digits int, check func(a, b api.Frac)) {
	list := samples(seed, count, digits)
	for _, a := range list {
		for _, b := range list {
			check(a, b)
		}
	}
}

// The calls of functions of one fraction, and of two, with ordinary other
// arguments, as those that return fractions.
type unary func(f api.Frac) (api.Frac, api.Errno)
type binary func(a, b api.Frac) (api.Frac, api.Errno)

func asWide(w api.Wide, e api.Errno) (api.Frac, api.Errno) { return api.Frac{Num: w}, e }

func asInt(n int, e api.Errno) (api.Frac, api.Errno) {
	return asWide(wide.From(int64(n)), e)
}

func asText(s string, e api.Errno) (api.Frac, api.Errno) { return asInt(len(s), e) }

func unaries() map[string]unary {
	return map[string]unary{
		"Neg":       frac.Neg,
		"Sum":       func(f api.Frac) (api.Frac, api.Errno) { return frac.Sum([]api.Frac{f}) },
		"Sum of 3":  func(f api.Frac) (api.Frac, api.Errno) { return frac.Sum([]api.Frac{of(2, 3), of(0, 1), f}) },
		"Floor":     func(f api.Frac) (api.Frac, api.Errno) { return asWide(frac.Floor(f)) },
		"Ceil":      func(f api.Frac) (api.Frac, api.Errno) { return asWide(frac.Ceil(f)) },
		"Round":     func(f api.Frac) (api.Frac, api.Errno) { return asWide(frac.Round(f)) },
		"Text":      func(f api.Frac) (api.Frac, api.Errno) { return asText(frac.Text(f)) },
		"Decimal":   func(f api.Frac) (api.Frac, api.Errno) { return asText(frac.Decimal(f, 3)) },
		"Decimal 0": func(f api.Frac) (api.Frac, api.Errno) { return asText(frac.Decimal(f, 0)) },
	}
}

func binaries() map[string]binary {
	return map[string]binary{
		"Add": frac.Add,
		"Sub": frac.Sub,
		"Mul": frac.Mul,
		"Div": frac.Div,
		"Cmp": func(a, b api.Frac) (api.Frac, api.Errno) { return asInt(frac.Cmp(a, b)) },
	}
}
