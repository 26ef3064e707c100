package frac_test

import (
	"math/rand"
	"testing"

	"planisphere/api"
	"planisphere/frac"
	"planisphere/wide"
)

// laws calculates, and fails at the first error.
type laws struct {
	t *testing.T
}

func (l laws) ok(f api.Frac, e api.Errno) api.Frac {
	l.t.Helper()
	if e != api.OK || frac.Check(f) != api.OK {
		l.t.Fatal("a result has the error", e, frac.Check(f))
	}
	return f
}

func (l laws) add(a, b api.Frac) api.Frac { l.t.Helper(); return l.ok(frac.Add(a, b)) }
func (l laws) sub(a, b api.Frac) api.Frac { l.t.Helper(); return l.ok(frac.Sub(a, b)) }
func (l laws) mul(a, b api.Frac) api.Frac { l.t.Helper(); return l.ok(frac.Mul(a, b)) }
func (l laws) div(a, b api.Frac) api.Frac { l.t.Helper(); return l.ok(frac.Div(a, b)) }
func (l laws) neg(a api.Frac) api.Frac    { l.t.Helper(); return l.ok(frac.Neg(a)) }

func (l laws) same(what string, a, b api.Frac) {
	l.t.Helper()
	if !same(a, b) {
		l.t.Error(what, brief(a), brief(b))
	}
}

// P2.6: the laws of arithmetic, and comparison.
func TestLaws(t *testing.T) {
	l := laws{t}
	r := rand.New(rand.NewSource(51))
	list := samples(52, 300, 300)
	pick := func() api.Frac { return list[r.Intn(len(list))] }
	for range 2000 {
		a, b, c := pick(), pick(), pick()
		l.same("a + b", l.add(a, b), l.add(b, a))
		l.same("a * b", l.mul(a, b), l.mul(b, a))
		l.same("a + b + c", l.add(l.add(a, b), c), l.add(a, l.add(b, c)))
		l.same("a * b * c", l.mul(l.mul(a, b), c), l.mul(a, l.mul(b, c)))
		l.same("a * (b + c)", l.mul(a, l.add(b, c)), l.add(l.mul(a, b), l.mul(a, c)))
		l.same("a - b", l.sub(a, b), l.add(a, l.neg(b)))
		l.same("a - a", l.sub(a, a), zero())
		l.same("a * 1", l.mul(a, of(1, 1)), a)
		l.same("a * 0", l.mul(a, zero()), zero())
		if len(b.Num.Mag) > 0 {
			l.same("a / b * b", l.mul(l.div(a, b), b), a)
		}
		order, _ := frac.Cmp(a, b)
		if sign, _ := frac.Cmp(l.sub(a, b), zero()); order != sign {
			t.Error("comparison", brief(a), brief(b), order, sign)
		}
	}
}

// P2.6: rounding, and texts.
func TestConsequences(t *testing.T) {
	for _, f := range samples(53, 500, 300) {
		down, e := frac.Floor(f)
		up, e2 := frac.Ceil(f)
		near, e3 := frac.Round(f)
		if e != api.OK || e2 != api.OK || e3 != api.OK {
			t.Fatal(e, e2, e3)
		}
		if !sameWide(near, down) && !sameWide(near, up) {
			t.Error("Round", brief(f), near)
		}
		step, _ := wide.Sub(up, down)
		if isWhole := sameWide(f.Den, wide.From(1)); sameWide(step, wide.From(1)) == isWhole {
			t.Error("Floor and Ceil", brief(f), down, up)
		}
		text, e := frac.Text(f)
		if e != api.OK {
			t.Fatal(e)
		}
		got, e := frac.Parse(text)
		if len(text) <= api.MaxNumeral {
			want(t, "Parse of Text", got, e, f)
		} else {
			fails(t, "Parse of a long Text", got, e, api.ErrForm)
		}
	}
}
