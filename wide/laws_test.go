package wide_test

import (
	"math/rand"
	"testing"

	"planisphere/api"
	"planisphere/wide"
)

// laws calculates, and fails at the first error.
type laws struct {
	t *testing.T
}

func (l laws) ok(w api.Wide, e api.Errno) api.Wide {
	l.t.Helper()
	if e != api.OK || wide.Check(w) != api.OK {
		l.t.Fatal("a result has the error", e, wide.Check(w))
	}
	return w
}

func (l laws) add(a, b api.Wide) api.Wide { l.t.Helper(); return l.ok(wide.Add(a, b)) }
func (l laws) sub(a, b api.Wide) api.Wide { l.t.Helper(); return l.ok(wide.Sub(a, b)) }
func (l laws) mul(a, b api.Wide) api.Wide { l.t.Helper(); return l.ok(wide.Mul(a, b)) }
func (l laws) gcd(a, b api.Wide) api.Wide { l.t.Helper(); return l.ok(wide.Gcd(a, b)) }
func (l laws) neg(a api.Wide) api.Wide    { l.t.Helper(); return l.ok(wide.Neg(a)) }
func (l laws) abs(a api.Wide) api.Wide    { l.t.Helper(); return l.ok(wide.Abs(a)) }
func (l laws) sqrt(a api.Wide) api.Wide   { l.t.Helper(); return l.ok(wide.Sqrt(a)) }

func (l laws) same(what string, a, b api.Wide) {
	l.t.Helper()
	if !equal(a, b) {
		l.t.Error(what, brief(a), brief(b))
	}
}

func (l laws) less(what string, a, b api.Wide) {
	l.t.Helper()
	if c, e := wide.Cmp(a, b); c != -1 || e != api.OK {
		l.t.Error(what, brief(a), brief(b))
	}
}

// P1.6: the laws of sums and products.
func TestLaws(t *testing.T) {
	l := laws{t}
	r := rand.New(rand.NewSource(16))
	list := samples(r, 300, 40)
	for range 3000 {
		a, b, c := list[r.Intn(len(list))], list[r.Intn(len(list))], list[r.Intn(len(list))]
		l.same("a + b", l.add(a, b), l.add(b, a))
		l.same("a * b", l.mul(a, b), l.mul(b, a))
		l.same("a + b + c", l.add(l.add(a, b), c), l.add(a, l.add(b, c)))
		l.same("a * b * c", l.mul(l.mul(a, b), c), l.mul(a, l.mul(b, c)))
		l.same("a * (b + c)", l.mul(a, l.add(b, c)), l.add(l.mul(a, b), l.mul(a, c)))
		l.same("a - b", l.sub(a, b), l.add(a, l.neg(b)))
		l.same("a - a", l.sub(a, a), api.Wide{})
		l.same("a * 1", l.mul(a, wide.From(1)), a)
		l.same("a * 0", l.mul(a, api.Wide{}), api.Wide{})
	}
}

// P1.6: what quotients and remainders, divisors and roots are.
func TestConsequences(t *testing.T) {
	l := laws{t}
	r := rand.New(rand.NewSource(17))
	list := samples(r, 300, 40)
	for range 3000 {
		a, b := list[r.Intn(len(list))], list[2+r.Intn(len(list)-2)]
		q, rest, e := wide.DivMod(a, b)
		l.ok(q, e)
		l.ok(rest, e)
		l.same("q * b + r", l.add(l.mul(q, b), rest), a)
		l.less("the remainder", l.abs(rest), l.abs(b))
		if len(rest.Mag) > 0 && rest.Neg != b.Neg {
			t.Error("the sign of the remainder", brief(a), brief(b))
		}
		g := l.gcd(a, b)
		for _, w := range []api.Wide{a, b} {
			if _, rest, e := wide.DivMod(w, g); e != api.OK || len(rest.Mag) > 0 {
				t.Error("the divisor does not divide", brief(w), brief(g))
			}
		}
		l.same("Gcd of a + b and b", l.gcd(l.add(a, b), b), g)
		l.same("Gcd of a and a + b", l.gcd(a, l.add(a, b)), g)
		n := l.abs(a)
		s := l.sqrt(n)
		next := l.add(s, wide.From(1))
		if c, _ := wide.Cmp(l.mul(s, s), n); c > 0 {
			t.Error("the square of the root is too great", brief(n))
		}
		l.less("the square of the next number", n, l.mul(next, next))
	}
}
