package terms_test

import (
	"slices"
	"testing"

	"planisphere/api"
	"planisphere/terms"
	"planisphere/wide"
)

// of returns a polynomial with small coefficients.
func of(l ...int64) []api.Wide {
	var p []api.Wide
	for _, n := range l {
		p = append(p, wide.From(n))
	}
	return p
}

func want(t *testing.T, what string, p []api.Wide, l ...int64) {
	t.Helper()
	same := func(a, b api.Wide) bool { return a.Neg == b.Neg && slices.Equal(a.Mag, b.Mag) }
	if !slices.EqualFunc(p, of(l...), same) {
		t.Error(what, p, "instead of", l)
	}
}

// List leaves out the zeros at the end, also from the memory behind it.
func TestList(t *testing.T) {
	l := []int64{3, 0, -1, 0, 0}
	for count, length := range []int{0, 1, 1, 3, 3, 3} {
		p := terms.List(count, func(i int) api.Wide { return wide.From(l[i]) })
		want(t, "List", p, l[:length]...)
		if cap(p) != length {
			t.Error("the capacity", count, cap(p))
		}
	}
	want(t, "List of less than none", terms.List(-1, nil))
}

func TestAt(t *testing.T) {
	p := of(5, 0, 7)
	want(t, "At", []api.Wide{terms.At(p, -1), terms.At(p, 0), terms.At(p, 2), terms.At(p, 3), terms.Last(p)}, 0, 5, 7, 0, 7)
}

func TestDerivative(t *testing.T) {
	want(t, "of 0", terms.Derivative(nil))
	want(t, "of a constant", terms.Derivative(of(4)))
	want(t, "of a cubic", terms.Derivative(of(4, -3, 0, 5)), -3, 0, 15)
}

func TestContent(t *testing.T) {
	want(t, "Content", []api.Wide{terms.Content(nil), terms.Content(of(-4)), terms.Content(of(0, 6, -9))}, 0, 4, 3)
	want(t, "Over", terms.Over(of(0, 6, -9), wide.From(-3)), 0, -2, 3)
}

// Lowered multiplies by a number greater than 0, whatever the signs are.
func TestLowered(t *testing.T) {
	want(t, "both greater than 0", terms.Lowered(of(1, 1, 4), of(5, 6)), 3, -7)
	want(t, "the first one less", terms.Lowered(of(1, 1, -4), of(5, 6)), 3, 13)
	want(t, "the second one less", terms.Lowered(of(1, 1, 4), of(5, -6)), 3, 13)
	want(t, "both less", terms.Lowered(of(1, 1, -4), of(5, -6)), 3, -7)
	want(t, "nothing left", terms.Lowered(of(2, -6), of(-1, 3)))
	want(t, "the same degree", terms.Lowered(of(1, 0, 2), of(1, 0, 1)), -1)
}

func TestQuotient(t *testing.T) {
	want(t, "by a factor", terms.Quotient(of(-6, 7, 3), of(3, 1)), -2, 3)
	want(t, "by itself", terms.Quotient(of(-2, 3), of(-2, 3)), 1)
	want(t, "by -1", terms.Quotient(of(-2, 3), of(-1)), 2, -3)
	want(t, "of a multiple", terms.Quotient(of(-5, 0, 5), of(1, -1)), -5, -5)
}

// Value at a fraction that is not in lowest terms, too.
func TestValue(t *testing.T) {
	for _, x := range []struct{ top, bottom, num, den int64 }{{1, 2, -1, 4}, {2, 4, -4, 16}, {-3, 1, 12, 1}, {0, 5, 0, 25}} {
		num, den := terms.Value(of(0, -1, 1), api.Frac{Num: wide.From(x.top), Den: wide.From(x.bottom)})
		want(t, "Value", []api.Wide{num, den}, x.num, x.den)
	}
	num, den := terms.Value(nil, api.Frac{Num: wide.From(3), Den: wide.From(2)})
	want(t, "Value of 0", []api.Wide{num, den}, 0, 1)
}
