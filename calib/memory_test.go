package calib_test

import (
	"fmt"
	"math/big"
	"slices"
	"testing"

	"planisphere/api"
	"planisphere/calib"
)

// spare is a field whose pixels have others behind them in memory.
func spare(f api.Field) api.Field {
	f.P = append(slices.Clone(f.P), 7, 8)[:len(f.P)]
	return f
}

// spareWide is a number whose limbs have others behind them in memory.
func spareWide(w api.Wide) api.Wide {
	return api.Wide{Neg: w.Neg, Mag: append(slices.Clone(w.Mag), 7, 8)[:len(w.Mag)]}
}

// all is the text of fields with what is behind their pixels.
func all(l ...api.Field) string {
	text := ""
	for _, f := range l {
		text += fmt.Sprint(f.W, f.H, f.P[:len(f.P)+2])
	}
	return text
}

// spoil overwrites all the memory of the results.
func spoil(f api.Field, bad []bool) {
	for i := range f.P[:cap(f.P)] {
		f.P[:cap(f.P)][i] = -99
	}
	for i := range bad[:cap(bad)] {
		bad[:cap(bad)][i] = true
	}
}

// R2: fields and factors are not modified, and results are new memory.
func TestMemoryCombine(t *testing.T) {
	l := []api.Field{spare(row(5, 1, 9)), spare(row(3, 2, 9)), spare(row(1, 9, 9)), spare(row(9, 9, 9))}
	_, greater := off(big.NewRat(2, 1))
	for _, k := range []api.Frac{of(3, 2), fraction(greater[len(greater)-1])} {
		k = api.Frac{Num: spareWide(k.Num), Den: spareWide(k.Den)}
		was, factor := all(l...), fmt.Sprint(k.Num.Mag[:len(k.Num.Mag)+2], k.Den.Mag[:len(k.Den.Mag)+2])
		for _, kind := range []uint8{api.CombineMedian, api.CombineClip, 3} {
			for _, some := range [][]api.Field{l[:3], l[:1]} {
				first, _ := calib.Combine(some, kind, k)
				got, e := calib.Combine(some, kind, k)
				spoil(got, nil)
				if again, f := calib.Combine(some, kind, k); e != f || !same(again, first) {
					t.Error("another result has changed", kind, again, first)
				}
			}
		}
		if all(l...) != was || fmt.Sprint(k.Num.Mag[:len(k.Num.Mag)+2], k.Den.Mag[:len(k.Den.Mag)+2]) != factor {
			t.Error("an argument has changed")
		}
	}
}

// R2: frames are not modified, and results are new memory.
func TestMemoryCounts(t *testing.T) {
	f := scaled(shaped(2, 2, 1, 2, 3, 4), number(3), decimal(25, -1))
	f.Raw = append(f.Raw, 7, 8)[:4]
	f.Shape = append(f.Shape, 5, 6)[:2]
	f.Cards = append(f.Cards, api.Card{Key: "X"}, api.Card{Key: "Y"})[:3]
	text := func() string { return fmt.Sprint(f.Bits, f.Shape[:4], f.Raw[:6], f.Cards[:5]) }
	was := text()
	for range 3 {
		got, e := calib.Counts(f)
		wants(t, "counts", got, e, field(2, 2, 5632, 8704, 11776, 14848))
		spoil(got, nil)
		m, e := calib.Mean(field(1, 2, 1, 2))
		if e != api.OK || !sameFrac(m, of(3, 2)) {
			t.Error(m, e)
		}
		m.Num.Mag[0], m.Den.Mag[0] = 9, 9
	}
	if text() != was {
		t.Error("the frame has changed")
	}
}

// R2: the four fields are not modified, and results are new memory.
func TestMemoryApply(t *testing.T) {
	raw, bias, dark, flat := spare(row(100, 90, 80)), spare(row(1, 2, 3)), spare(row(4, 0, 6)), spare(row(3, -3, 1))
	was := all(raw, bias, dark, flat)
	for range 3 {
		got, bad, e := calib.Apply(raw, bias, dark, flat, 1, 2)
		wants(t, "apply", got, e, row(65, 0, 148))
		if !slices.Equal(bad, []bool{false, true, false}) {
			t.Error(bad)
		}
		spoil(got, bad)
		if m, e := calib.Mean(flat); e != api.OK || !sameFrac(m, of(1, 3)) || calib.Check(raw) != api.OK {
			t.Error(m, e)
		}
		calib.Apply(raw, bias, dark, dark, 0, 0)
	}
	if all(raw, bias, dark, flat) != was {
		t.Error("a field has changed")
	}
}

// R2: the same field may be all arguments.
func TestSameField(t *testing.T) {
	f := row(4, 2, 6)
	got, _, e := calib.Apply(f, f, f, f, 1, 1)
	wants(t, "four equal fields", got, e, row(-4, -4, -4))
	got, e = calib.Combine([]api.Field{f, f, f}, api.CombineMedian, api.Frac{})
	wants(t, "three equal fields", got, e, f)
	if !same(f, row(4, 2, 6)) {
		t.Error(f)
	}
}
