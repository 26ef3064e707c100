package calib_test

import (
	"math"
	"math/big"
	"math/rand"
	"testing"

	"planisphere/api"
	"planisphere/calib"
)

// scaled is a frame with a scale and a zero point.
func scaled(f api.Frame, scale, zero api.Card) api.Frame {
	scale.Key, zero.Key = "BSCALE", "BZERO"
	f.Cards = []api.Card{zero, {Key: "OBJECT", Kind: api.CardText, Text: "M 31"}, scale}
	return f
}

// number is a card with a whole number.
func number(n int64) api.Card { return api.Card{Kind: api.CardWhole, N: n} }

// decimal is a card with N times 10^E.
func decimal(n int64, e int) api.Card { return api.Card{Kind: api.CardReal, N: n, E: e} }

// shaped is a frame of 64 bits with these elements.
func shaped(w, h int, raw ...int64) api.Frame {
	return api.Frame{Bits: 64, Shape: []int{w, h}, Raw: raw}
}

// rat is the number of the first card with a keyword, or another one.
func rat(l []api.Card, key string, other int64) *big.Rat {
	for _, c := range l {
		if c.Key != key {
			continue
		}
		if c.Kind != api.CardWhole && c.Kind != api.CardReal {
			break
		}
		x := new(big.Rat).SetInt64(c.N)
		ten := new(big.Int).Exp(big.NewInt(10), big.NewInt(int64(max(c.E, -c.E))), nil)
		if c.E < 0 {
			return x.Quo(x, new(big.Rat).SetInt(ten))
		}
		return x.Mul(x, new(big.Rat).SetInt(ten))
	}
	return big.NewRat(other, 1)
}

// counts checks the field of a frame, or that it is ErrRange, which it returns.
func counts(t *testing.T, f api.Frame) (fits bool) {
	t.Helper()
	scale, zero := rat(f.Cards, "BSCALE", 1), rat(f.Cards, "BZERO", 0)
	want, fits := filled(f.Shape[0], f.Shape[1], func(i int) *big.Rat {
		x := big.NewRat(f.Raw[i], 1)
		return x.Mul(x.Add(x.Mul(x, scale), zero), big.NewRat(1024, 1))
	})
	got, e := calib.Counts(f)
	if fits {
		wants(t, brief(f), got, e, want)
	} else if e != api.ErrRange || !isNone(got) {
		t.Error(brief(f), brief(got), e, "instead of ErrRange")
	}
	return fits
}

// P10.1: frames without a scale, of each number of bits.
func TestPlainFrames(t *testing.T) {
	r := rand.New(rand.NewSource(1))
	for _, bits := range []int{8, 16, 32, 64} {
		for _, size := range append(sizes(), [2]int{100, 100}, [2]int{100, 1}, [2]int{1, 100}) {
			f := api.Frame{Bits: bits, Shape: size[:]}
			for range size[0] * size[1] {
				n := r.Int63n(1<<min(bits, 23)) - 1<<(min(bits, 23)-1)
				if bits == 8 {
					n += 128
				}
				f.Raw = append(f.Raw, n)
			}
			if !counts(t, f) {
				t.Error(brief(f), "does not fit")
			}
		}
	}
}

// P10.1: the first element of Shape is the width.
func TestFrameShape(t *testing.T) {
	f, e := calib.Counts(shaped(3, 2, 1, 2, 3, 4, 5, -6))
	wants(t, "3 by 2", f, e, field(3, 2, 1024, 2048, 3072, 4096, 5120, -6144))
	f, e = calib.Counts(shaped(1, 3, 7, 8, 9))
	wants(t, "1 by 3", f, e, field(1, 3, 7168, 8192, 9216))
}

// P10.1: the greatest and least values that have a place in a field, and those
// beyond them, in each place.
func TestFrameRange(t *testing.T) {
	for i := range 6 {
		f := shaped(3, 2, 1, 2, 3, 4, 5, 6)
		for _, n := range []int64{1 << 22, -1 << 22} {
			f.Raw[i] = n
			if !counts(t, f) {
				t.Error(f)
			}
		}
		for _, n := range []int64{1<<22 + 1, -1<<22 - 1, math.MaxInt64, math.MinInt64, 1 << 54, -1 << 54, 1 << 53} {
			f.Raw[i] = n
			if counts(t, f) {
				t.Error(f)
			}
		}
	}
	// The pixel is rounded first: 2^32 + 1/2 has a place, and a bit more has none.
	for _, sign := range []int64{1, -1} {
		f := scaled(shaped(1, 1, sign), decimal(419430400048828125, -11), number(0))
		if got, e := calib.Counts(f); e != api.OK || !same(got, row(sign*most)) {
			t.Error(got, e)
		}
		for _, x := range []api.Card{decimal(419430400048828126, -11), number(5000000), decimal(1, 30), decimal(999999999999999999, 30)} {
			if counts(t, scaled(shaped(1, 1, sign), x, number(0))) || counts(t, scaled(shaped(1, 1, 0), number(1), x)) {
				t.Error(sign, x)
			}
		}
	}
}

// P10.1: a scale of half a unit, so that each other pixel is a half.
func TestFrameHalves(t *testing.T) {
	f := scaled(shaped(9, 1, -4, -3, -2, -1, 0, 1, 2, 3, 4), decimal(48828125, -11), number(0))
	got, e := calib.Counts(f)
	wants(t, "halves", got, e, row(-2, -2, -1, 0, 0, 0, 1, 2, 2))
	f = scaled(f, decimal(48828125, -11), decimal(48828125, -11))
	got, e = calib.Counts(f)
	wants(t, "halves with a zero point", got, e, row(-2, -1, 0, 0, 0, 1, 2, 2, 2))
	f = scaled(f, decimal(48828125, -11), decimal(48828126, -11))
	got, e = calib.Counts(f)
	wants(t, "more than halves", got, e, row(-1, -1, 0, 0, 1, 1, 2, 2, 3))
}

// P10.1: scales and zero points of each kind, of which the first one counts.
func TestScaledFrames(t *testing.T) {
	r := rand.New(rand.NewSource(2))
	numbers := []api.Card{
		number(0), number(1), number(-1), number(32768), number(-3), number(math.MinInt64), number(math.MaxInt64), decimal(0, 0), decimal(25, -2), decimal(-125, -4),
		decimal(1, -30), decimal(-999999999999999999, -30), decimal(3, 1), decimal(-7, 30), decimal(123456789, -12), decimal(-987654321, -10), decimal(48828125, -11),
		{Kind: api.CardText, Text: "7"}, {Kind: api.CardFlag, Yes: true}, {Kind: api.CardEmpty, Note: "none"},
	}
	count := map[bool]int{}
	for range 3000 {
		size := sizes()[r.Intn(8)]
		f := api.Frame{Bits: 64, Shape: size[:]}
		for range size[0] * size[1] {
			f.Raw = append(f.Raw, []int64{r.Int63n(100001) - 50000, r.Int63n(9) - 4, -1 << 40, 1<<40 + 3}[r.Intn(8)/2*r.Intn(2)])
		}
		f.Cards = []api.Card{{Key: "COMMENT", Kind: api.CardNote, Text: "BSCALE"}}
		for range r.Intn(4) {
			c := numbers[r.Intn(len(numbers))]
			c.Key = []string{"BSCALE", "BZERO", "BZERO1", "BSCAL"}[r.Intn(4)]
			f.Cards = append(f.Cards, c)
		}
		count[counts(t, f)]++
	}
	if count[true] < 1000 || count[false] < 300 {
		t.Error("too few of a kind", count)
	}
}

// P10.1: frames that are not valid, and those that are no fields.
func TestNoFields(t *testing.T) {
	fails := func(f api.Frame, want api.Errno) {
		t.Helper()
		if got, e := calib.Counts(f); e != want || !isNone(got) {
			t.Error(brief(f), brief(got), e, "instead of", want)
		}
	}
	zeros := func(shape ...int) api.Frame {
		count := 1
		for _, length := range shape {
			count *= length
		}
		return api.Frame{Bits: 32, Shape: shape, Raw: make([]int64, count)}
	}
	fails(api.Frame{Bits: 16}, api.ErrArg)
	for _, shape := range [][]int{{1}, {100}, {1, 1, 1}, {10, 10, 1}, {1, 10, 10}, {101, 1}, {1, 101}, {101, 99}, {99, 101}, {10000, 1}, {1, 10000}, {5000, 2}} {
		fails(zeros(shape...), api.ErrArg)
		far := zeros(shape...)
		far.Raw[0] = 1 << 23
		fails(far, api.ErrArg)
		bad := zeros(shape...)
		bad.Bits = 24
		fails(bad, api.ErrBad)
	}
	for _, shape := range [][]int{{101, 100}, {0, 1}, {1, 0}, {-1, -1}, {1 << 40, 1 << 40}, {1, 1, 1, 1}} {
		fails(api.Frame{Bits: 32, Shape: shape, Raw: []int64{1}}, api.ErrBad)
	}
	far := shaped(2, 1, 0, 1<<23)
	fails(far, api.ErrRange)
	fails(api.Frame{Bits: 16, Shape: far.Shape, Raw: far.Raw}, api.ErrBad)
	fails(shaped(2, 1, 0), api.ErrBad)
	fails(shaped(2, 1, 0, 1, 2), api.ErrBad)
	fails(api.Frame{}, api.ErrBad)
	far.Cards = []api.Card{{Key: "BZERO", Kind: api.CardWhole, E: 1}}
	fails(far, api.ErrBad)
	far.Cards = []api.Card{{Key: "NAXIS", Kind: api.CardWhole}}
	fails(far, api.ErrBad)
	far.Cards = make([]api.Card, api.MaxExtra+1)
	for i := range far.Cards {
		far.Cards[i] = api.Card{Key: "A", Kind: api.CardEmpty}
	}
	fails(far, api.ErrBad)
	far.Cards = far.Cards[:api.MaxExtra]
	fails(far, api.ErrRange)
	far.Raw[1] = 1
	counts(t, far)
}
