package card_test

import (
	"math"
	"math/big"
	"testing"

	"planisphere/api"
	"planisphere/card"
	"planisphere/frac"
)

// stands checks the value of a card, which is n times 10^e.
func stands(t *testing.T, c api.Card, n int64, e int) {
	t.Helper()
	power := new(big.Int).Exp(big.NewInt(10), big.NewInt(int64(max(e, -e))), nil)
	want := new(big.Rat).SetInt(power)
	if e < 0 {
		want.Inv(want)
	}
	want.Mul(want, big.NewRat(n, 1))
	f, error := card.Value(c)
	if text, _ := frac.Text(f); error != api.OK || text != want.RatString() {
		t.Error(c, text, error, "instead of", want)
	}
}

// P8.4: the numbers of cards.
func TestValue(t *testing.T) {
	for _, n := range []int64{0, 1, -1, 10, -10, 125, 32768, 1e18, math.MaxInt64, math.MinInt64} {
		stands(t, api.Card{Key: "N", Kind: api.CardWhole, N: n, Note: "n"}, n, 0)
	}
	for _, n := range []int64{1, -1, 2, 5, -5, 4, 25, 125, -128, 3, 7, 1e18 - 1, 1 - 1e18, 1 << 59, 762939453125} {
		for e := -30; e <= 30; e++ {
			stands(t, api.Card{Key: "N", Kind: api.CardReal, N: n, E: e, Note: "n"}, n, e)
		}
	}
	stands(t, api.Card{Key: "N", Kind: api.CardReal}, 0, 0)
	for _, c := range cards(8) {
		if c.Kind == api.CardWhole || c.Kind == api.CardReal {
			stands(t, c, c.N, c.E)
		}
	}
}

// P8.4: ErrBad, and then ErrNone for cards of other kinds.
func TestValueErrors(t *testing.T) {
	fails := func(c api.Card, want api.Errno) {
		t.Helper()
		if f, e := card.Value(c); e != want || f.Num.Neg || f.Num.Mag != nil || f.Den.Neg || f.Den.Mag != nil {
			t.Error(c, f, e, "instead of", want)
		}
	}
	for _, c := range cards(9) {
		if c.Kind != api.CardWhole && c.Kind != api.CardReal {
			fails(c, api.ErrNone)
		}
		c.Key += "/"
		fails(c, api.ErrBad)
	}
	for _, c := range append(strange(),
		api.Card{Key: "N", Kind: api.CardWhole, N: 1, E: 1}, api.Card{Kind: api.CardWhole, N: 1}, api.Card{Key: "N", Kind: api.CardWhole, Text: "1"},
		api.Card{Key: "N", Kind: api.CardReal, N: 10}, api.Card{Key: "N", Kind: api.CardReal, N: 1, E: 31}, api.Card{Key: "N", Kind: api.CardReal, N: 1, E: -31},
		api.Card{Key: "N", Kind: api.CardReal, N: 1e18 + 1}, api.Card{Key: "N", Kind: api.CardReal, E: 1}, api.Card{Key: "N", Kind: api.CardReal, N: 1, Note: many("n", 48)},
	) {
		fails(c, api.ErrBad)
	}
}
