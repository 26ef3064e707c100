package calib_test

import (
	"math/big"
	"math/rand"
	"slices"
	"testing"

	"planisphere/api"
	"planisphere/calib"
)

// stack are the pixels of fields in the same place.
func stack(l []api.Field, i int) []int64 {
	var pixels []int64
	for _, f := range l {
		pixels = append(pixels, f.P[i])
	}
	return pixels
}

// combines checks the combined field of both kinds.
func combines(t *testing.T, l []api.Field, k *big.Rat) {
	t.Helper()
	want, _ := filled(l[0].W, l[0].H, func(i int) *big.Rat { return median(stack(l, i)) })
	got, e := calib.Combine(l, api.CombineMedian, fraction(k))
	wants(t, brief("median ", l), got, e, want)
	want, _ = filled(l[0].W, l[0].H, func(i int) *big.Rat { return trimmed(stack(l, i), k) })
	got, e = calib.Combine(l, api.CombineClip, fraction(k))
	wants(t, brief("clip ", k.FloatString(9), " ", l), got, e, want)
}

// columns are fields whose pixels in the same place are those of the lists.
func columns(w, h int, lists ...[]int64) []api.Field {
	var l []api.Field
	for j := range lists[0] {
		f := field(w, h)
		for _, list := range lists {
			f.P = append(f.P, list[j])
		}
		l = append(l, f)
	}
	return l
}

// factors are factors of clipping, with the least and the greatest one.
func factors(r *rand.Rand) []*big.Rat {
	den := 1 + r.Int63n(1<<(1+r.Intn(40)))
	return []*big.Rat{big.NewRat(1, 1), big.NewRat(1000, 1), big.NewRat(5, 4), big.NewRat(2, 1), big.NewRat(den+r.Int63n(3*den), den)}
}

// P10.2: from 1 to 30 fields, of which some pixels stand out.
func TestCombine(t *testing.T) {
	r := rand.New(rand.NewSource(11))
	for count := 1; count <= api.MaxStack; count++ {
		for _, size := range sizes() {
			var l []api.Field
			digits := []int{1, 3, 10, 31}[r.Intn(4)]
			for range count {
				l = append(l, random(r, size[0], size[1], digits))
			}
			for _, k := range factors(r) {
				combines(t, l, k)
			}
		}
	}
}

// P10.2: fields of the greatest width and height.
func TestCombineLarge(t *testing.T) {
	r := rand.New(rand.NewSource(12))
	for _, size := range [][2]int{{100, 100}, {100, 1}, {1, 100}} {
		var l []api.Field
		for range 5 {
			l = append(l, random(r, size[0], size[1], 6))
		}
		combines(t, l, big.NewRat(3, 2))
	}
}

// P10.2: pixels at both limits.
func TestCombineLimits(t *testing.T) {
	for count := 1; count <= api.MaxStack; count++ {
		var lists [][]int64
		for high := range count + 1 {
			lists = append(lists, append(slices.Repeat([]int64{most}, high), slices.Repeat([]int64{-most}, count-high)...))
			lists = append(lists, append(slices.Repeat([]int64{most}, high), slices.Repeat([]int64{most - 1}, count-high)...))
		}
		for _, k := range []*big.Rat{big.NewRat(1, 1), big.NewRat(2, 1), big.NewRat(5, 1)} {
			combines(t, columns(len(lists), 1, lists...), k)
		}
	}
}

// P10.2: medians and trimmed means that lie between two whole numbers, just
// halfway and elsewhere.
func TestCombineHalves(t *testing.T) {
	k := of(1000, 1)
	for _, kind := range []uint8{api.CombineMedian, api.CombineClip} {
		l := []api.Field{row(0, 1, 2, 3, -1, -2, -3, -4, most, -most), row(1, 2, 3, 4, 0, -1, -2, -3, most-1, 1-most)}
		got, e := calib.Combine(l, kind, k)
		wants(t, brief("halves ", kind), got, e, row(0, 2, 2, 4, 0, -2, -2, -4, most, -most))
	}
	l := columns(6, 1, []int64{0, 0, 1}, []int64{0, 1, 1}, []int64{-1, 0, 0}, []int64{-1, -1, 0}, []int64{4, 5, 6}, []int64{1, 2, 4})
	got, e := calib.Combine(l, api.CombineClip, k)
	wants(t, "thirds", got, e, row(0, 1, 0, -1, 5, 2))
	got, e = calib.Combine(l, api.CombineMedian, k)
	wants(t, "thirds", got, e, row(0, 1, 0, -1, 5, 2))
	l = columns(2, 1, []int64{0, 0, 0, 1, 1, 1, 1, 1, 1, 1, 1, 0}, []int64{7, 7, 7, 7, 7, 7, 8, 8, 8, 8, 8, 8})
	got, e = calib.Combine(l, api.CombineClip, k)
	wants(t, "twelfths", got, e, row(1, 8))
}

// P10.2: what clipping leaves out depends on the factor, and it goes on in
// rounds.
func TestCombineRounds(t *testing.T) {
	l := columns(1, 2, []int64{1, 2, 3, 4, 100, 10000}, []int64{9, 9, 9, 9, 9, 19})
	for _, x := range []struct {
		k    api.Frac
		want api.Field
	}{
		{of(3, 2), field(1, 2, 2, 9)}, {of(2, 1), field(1, 2, 22, 9)}, {of(9, 4), field(1, 2, 1685, 11)},
		{of(1, 1), field(1, 2, 2, 9)}, {of(1000, 1), field(1, 2, 1685, 11)},
	} {
		got, e := calib.Combine(l, api.CombineClip, x.k)
		wants(t, brief(x.k), got, e, x.want)
	}
	combines(t, l, big.NewRat(3, 2))
	combines(t, l, big.NewRat(2, 1))
}

// P10.2: too few and too many fields come first.
func TestCombineCount(t *testing.T) {
	good := row(1, 2, 3)
	for _, kind := range []uint8{api.CombineMedian, api.CombineClip, 0, 3} {
		for _, k := range []api.Frac{of(2, 1), {}, of(1, 2)} {
			for _, l := range [][]api.Field{nil, {}, []api.Field{good, {}}[:0]} {
				fails(t, l, kind, k, api.ErrNone)
			}
			for _, count := range []int{31, 32, 100} {
				l := slices.Repeat([]api.Field{good}, count)
				fails(t, l, kind, k, api.ErrMany)
				l[count-1] = row(1, 2)
				fails(t, l, kind, k, api.ErrMany)
				l[0], l[30] = api.Field{}, api.Field{}
				fails(t, l, kind, k, api.ErrMany)
			}
		}
	}
	all := slices.Repeat([]api.Field{good}, api.MaxStack)
	combines(t, all, big.NewRat(2, 1))
	combines(t, all[:1], big.NewRat(2, 1))
}

// fails checks with which error fields are not combined.
func fails(t *testing.T, l []api.Field, kind uint8, k api.Frac, want api.Errno) {
	t.Helper()
	if got, e := calib.Combine(l, kind, k); e != want || !isNone(got) {
		t.Error(brief(kind, k, l), brief(got), e, "instead of", want)
	}
}

// P10.2: a field that is not valid, in each place, comes before all but the
// number of fields.
func TestCombineBad(t *testing.T) {
	for _, bad := range bads() {
		for _, count := range []int{1, 2, 5, 30} {
			for _, i := range []int{0, count / 2, count - 1} {
				l := slices.Repeat([]api.Field{row(1, 2, 3)}, count)
				l[i] = bad
				for _, kind := range []uint8{api.CombineMedian, api.CombineClip, 0, 3} {
					fails(t, l, kind, of(2, 1), api.ErrBad)
					fails(t, l, kind, api.Frac{}, api.ErrBad)
				}
				// One of another size in front of it changes nothing.
				l[0] = row(1)
				if i > 0 {
					fails(t, l, api.CombineClip, of(1, 2), api.ErrBad)
				}
			}
		}
	}
}

// P10.2: fields of different sizes.
func TestCombineSizes(t *testing.T) {
	for _, other := range []api.Field{equal(2, 3, 1), equal(3, 3, 1), equal(2, 2, 1), equal(6, 1, 1), equal(1, 6, 1), equal(1, 1, 1), equal(4, 2, 1)} {
		for i := range 4 {
			l := slices.Repeat([]api.Field{equal(3, 2, 1)}, 4)
			combines(t, l, big.NewRat(2, 1))
			l[i] = other
			for _, kind := range []uint8{api.CombineMedian, api.CombineClip, 0, 3} {
				fails(t, l, kind, of(2, 1), api.ErrArg)
			}
		}
	}
}

// P10.2: kinds that are none of the two, and what is no factor, which only
// counts for one of them.
func TestCombineKinds(t *testing.T) {
	l := []api.Field{row(1, 5), row(2, 7), row(9, 7)}
	for kind := range 256 {
		if kind != int(api.CombineMedian) && kind != int(api.CombineClip) {
			fails(t, l, uint8(kind), of(2, 1), api.ErrArg)
		}
	}
	for _, k := range badFactors() {
		fails(t, l, api.CombineClip, k, api.ErrArg)
		fails(t, l[:1], api.CombineClip, k, api.ErrArg)
		got, e := calib.Combine(l, api.CombineMedian, k)
		wants(t, brief("median with ", k), got, e, row(2, 7))
	}
}

// The examples of the chapter.
func TestCombineExample(t *testing.T) {
	got, e := calib.Combine([]api.Field{row(1), row(2), row(5), row(8)}, api.CombineMedian, api.Frac{})
	wants(t, "1, 2, 5 and 8", got, e, row(4))
}
