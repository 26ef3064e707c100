package frame_test

import (
	"math"
	"math/big"
	"math/rand"
	"testing"

	"planisphere/api"
	"planisphere/frac"
	"planisphere/frame"
)

// is checks the value of an element.
func is(t *testing.T, f api.Frame, i int, want *big.Rat) {
	t.Helper()
	v, e := frame.Value(f, i)
	if text, _ := frac.Text(v); e != api.OK || text != want.RatString() {
		t.Errorf("%v at %v: %v %v instead of %v", f.Cards, i, text, e, want)
	}
}

// rat is the number of a card, or another one, if it has none.
func rat(l []api.Card, key string, other int64) *big.Rat {
	for _, c := range l {
		if c.Key != key {
			continue
		}
		ten := big.NewInt(10)
		switch {
		case c.Kind == api.CardWhole || c.Kind == api.CardReal && c.E >= 0:
			return new(big.Rat).SetInt(ten.Mul(ten.Exp(ten, big.NewInt(int64(c.E)), nil), big.NewInt(c.N)))
		case c.Kind == api.CardReal:
			return new(big.Rat).SetFrac(big.NewInt(c.N), ten.Exp(ten, big.NewInt(int64(-c.E)), nil))
		}
		break
	}
	return big.NewRat(other, 1)
}

// P9.4: without cards an element is its own value.
func TestPlainValue(t *testing.T) {
	for _, bits := range []int{8, 16, 32, 64} {
		least, most := limit(bits)
		f := of(bits, 3, 2)
		f.Raw = []int64{least, most, 0, 1, 100, most - 1}
		for i, n := range f.Raw {
			is(t, f, i, big.NewRat(n, 1))
		}
	}
}

// P9.4: values with a scale and a zero point of each kind, of which the first one
// counts.
func TestScaledValue(t *testing.T) {
	numbers := []api.Card{
		{Kind: api.CardWhole}, {Kind: api.CardWhole, N: 1}, {Kind: api.CardWhole, N: -1}, {Kind: api.CardWhole, N: 32768, Note: "n"}, {Kind: api.CardWhole, N: math.MinInt64},
		{Kind: api.CardWhole, N: math.MaxInt64}, {Kind: api.CardReal}, {Kind: api.CardReal, N: 25, E: -2}, {Kind: api.CardReal, N: -1, E: 30}, {Kind: api.CardReal, N: 1, E: -30},
		{Kind: api.CardReal, N: 1e18 - 1, E: 30}, {Kind: api.CardReal, N: 1 - 1e18, E: -30}, {Kind: api.CardReal, N: 3, E: 1}, {Kind: api.CardText, Text: "7"}, {Kind: api.CardFlag, Yes: true}, {Kind: api.CardEmpty},
	}
	r := rand.New(rand.NewSource(7))
	f := of(64, 7)
	f.Raw = []int64{0, 1, -1, 300, math.MinInt64, math.MaxInt64, -4}
	for range 3000 {
		f.Cards = []api.Card{{Key: "BSCALE_", Kind: api.CardWhole, N: 5}, {Key: "COMMENT", Kind: api.CardNote, Text: "BZERO"}}
		for range r.Intn(4) {
			c := numbers[r.Intn(len(numbers))]
			c.Key = []string{"BSCALE", "BZERO"}[r.Intn(2)]
			f.Cards = append(f.Cards, c)
		}
		i := r.Intn(len(f.Raw))
		want := new(big.Rat).SetInt64(f.Raw[i])
		want.Mul(want, rat(f.Cards, "BSCALE", 1))
		is(t, f, i, want.Add(want, rat(f.Cards, "BZERO", 0)))
	}
}

// P9.4: the first card with a keyword counts even if it has no number.
func TestWithoutNumber(t *testing.T) {
	f := of(16, 1)
	f.Raw[0] = 10
	for _, first := range []api.Card{{Kind: api.CardText, Text: "2"}, {Kind: api.CardFlag}, {Kind: api.CardEmpty}} {
		scale, zero := first, first
		scale.Key, zero.Key = "BSCALE", "BZERO"
		f.Cards = []api.Card{scale, {Key: "BSCALE", Kind: api.CardWhole, N: 3}, {Key: "BZERO", Kind: api.CardWhole, N: 4}}
		is(t, f, 0, big.NewRat(14, 1))
		f.Cards = []api.Card{zero, {Key: "BZERO", Kind: api.CardWhole, N: 4}, {Key: "BSCALE", Kind: api.CardWhole, N: 3}}
		is(t, f, 0, big.NewRat(30, 1))
	}
	f.Cards = []api.Card{{Key: "BZERO", Kind: api.CardReal, N: 5, E: -1}, {Key: "BSCALE", Kind: api.CardWhole, N: 3}, {Key: "BSCALE", Kind: api.CardWhole, N: 9}, {Key: "BZERO", Kind: api.CardWhole}}
	is(t, f, 0, big.NewRat(61, 2))
}

// P9.4: ErrBad, and then ErrArg without such an element.
func TestValueErrors(t *testing.T) {
	fails := func(f api.Frame, i int, want api.Errno) {
		t.Helper()
		if v, e := frame.Value(f, i); e != want || v.Num.Neg || v.Num.Mag != nil || v.Den.Neg || v.Den.Mag != nil {
			t.Errorf("%v at %v: %v %v instead of %v", f, i, v, e, want)
		}
	}
	for _, f := range []api.Frame{of(8), of(16, 1), of(32, 2, 3), of(64, 4, 1, 2)} {
		for _, i := range []int{-1, len(f.Raw), len(f.Raw) + 1, math.MinInt, math.MaxInt, 1 << 32} {
			fails(f, i, api.ErrArg)
			wrong := f
			wrong.Bits++
			fails(wrong, i, api.ErrBad)
		}
		for i := range f.Raw {
			is(t, f, i, new(big.Rat))
			wrong := f
			wrong.Cards = []api.Card{{Key: "BZERO", Kind: api.CardWhole, E: 1}}
			fails(wrong, i, api.ErrBad)
			wrong.Cards = []api.Card{{Key: "NAXIS", Kind: api.CardWhole}}
			fails(wrong, i, api.ErrBad)
		}
	}
	fails(api.Frame{}, 0, api.ErrBad)
	fails(api.Frame{Bits: 8, Shape: []int{2}, Raw: []int64{1, 256}}, 0, api.ErrBad)
	fails(api.Frame{Bits: 8, Shape: []int{1}, Raw: []int64{1, 2}}, 1, api.ErrBad)
}
