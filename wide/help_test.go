package wide_test

import (
	"math/big"
	"math/rand"
	"slices"
	"testing"

	"planisphere/api"
	"planisphere/wide"
)

// bad are numbers that are not valid.
func bad() []api.Wide {
	long := make([]uint32, api.MaxLimbs+1)
	long[api.MaxLimbs] = 1
	return []api.Wide{
		{Neg: true},
		{Neg: true, Mag: []uint32{}},
		{Mag: []uint32{0}},
		{Mag: []uint32{1, 2, 0}},
		{Neg: true, Mag: []uint32{7, 0, 0}},
		{Mag: long},
		{Mag: make([]uint32, api.MaxLimbs+1)},
	}
}

// greatest is the greatest valid number.
func greatest() api.Wide {
	mag := make([]uint32, api.MaxLimbs)
	for i := range mag {
		mag[i] = 1<<32 - 1
	}
	return api.Wide{Mag: mag}
}

// least is the least valid number.
func least() api.Wide {
	return api.Wide{Neg: true, Mag: greatest().Mag}
}

// power is 2^k, whatever k is.
func power(k int) api.Wide {
	mag := make([]uint32, k/32+1)
	mag[k/32] = 1 << (k % 32)
	return api.Wide{Mag: mag}
}

// toBig returns what a valid number stands for.
func toBig(w api.Wide) *big.Int {
	bytes := make([]byte, 0, 4*len(w.Mag))
	for _, x := range slices.Backward(w.Mag) {
		bytes = append(bytes, byte(x>>24), byte(x>>16), byte(x>>8), byte(x))
	}
	n := new(big.Int).SetBytes(bytes)
	if w.Neg {
		n.Neg(n)
	}
	return n
}

// fromBig returns the form of a number.
func fromBig(n *big.Int) api.Wide {
	bytes := new(big.Int).Abs(n).Bytes()
	slices.Reverse(bytes)
	mag := make([]uint32, (len(bytes)+3)/4)
	for i, x := range bytes {
		mag[i/4] |= uint32(x) << (i % 4 * 8)
	}
	return api.Wide{Neg: n.Sign() < 0, Mag: mag}
}

// equal reports whether two values are the same, a nil list being empty.
func equal(a, b api.Wide) bool {
	return a.Neg == b.Neg && slices.Equal(a.Mag, b.Mag)
}

// brief is a text of a number for messages.
func brief(w api.Wide) string {
	if len(w.Mag) > 20 || wide.Check(w) != api.OK {
		return "a long or invalid number"
	}
	return toBig(w).String()
}

// want checks a result against what it should stand for.
func want(t *testing.T, what string, got api.Wide, e api.Errno, n *big.Int) {
	t.Helper()
	switch {
	case e != api.OK:
		t.Errorf("%s: error %d", what, e)
	case wide.Check(got) != api.OK:
		t.Errorf("%s: the result is not valid", what)
	case !equal(got, fromBig(n)):
		t.Errorf("%s: %s instead of %s", what, brief(got), brief(fromBig(n)))
	}
}

// fails checks that a result is an error, and else 0.
func fails(t *testing.T, what string, got api.Wide, e, f api.Errno) {
	t.Helper()
	if e != f {
		t.Errorf("%s: error %d instead of %d", what, e, f)
	}
	if got.Neg || len(got.Mag) > 0 {
		t.Errorf("%s: a result with the error %d", what, f)
	}
}

// random returns a number of n limbs. Many of them are extreme ones, which
// make carries, and guesses of digits that are too great.
func random(r *rand.Rand, n int) api.Wide {
	mag := make([]uint32, n)
	for i := range mag {
		switch r.Intn(8) {
		case 0:
			mag[i] = 0
		case 1:
			mag[i] = 1<<32 - 1
		case 2:
			mag[i] = 1 << 31
		case 3:
			mag[i] = uint32(r.Intn(3))
		default:
			mag[i] = r.Uint32()
		}
	}
	if n > 0 && mag[n-1] == 0 {
		mag[n-1] = 1 + r.Uint32()%5
	}
	return api.Wide{Neg: n > 0 && r.Intn(2) == 0, Mag: mag}
}

// samples are numbers of all sizes up to n limbs, the small ones first.
func samples(r *rand.Rand, count, n int) []api.Wide {
	list := []api.Wide{{}, {Mag: []uint32{}}}
	for _, k := range []int64{1, 2, 3, 7, 9, 10, 1<<31 - 1, 1 << 31, 1<<32 - 1, 1 << 32, 1<<63 - 1} {
		list = append(list, fromBig(big.NewInt(k)), fromBig(big.NewInt(-k)))
	}
	for range count {
		list = append(list, random(r, 1+r.Intn(n)))
	}
	return list
}

// eachPair calls a check for pairs of samples.
func eachPair(count, n int, check func(a, b api.Wide)) {
	r := rand.New(rand.NewSource(int64(count*1000 + n)))
	list := samples(r, count, n)
	for _, a := range list {
		for _, b := range list {
			check(a, b)
		}
	}
}

// each calls a check for samples.
func each(count, n int, check func(w api.Wide)) {
	r := rand.New(rand.NewSource(int64(count*1000 + n)))
	for _, w := range samples(r, count, n) {
		check(w)
	}
}
