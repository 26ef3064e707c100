package roots_test

import (
	"math/rand"
	"testing"

	"planisphere/api"
	"planisphere/frac"
	"planisphere/poly"
	"planisphere/roots"
	"planisphere/wide"
)

// laws calculates, and fails at the first error.
type laws struct {
	t *testing.T
}

func (l laws) ok(e api.Errno) {
	l.t.Helper()
	if e != api.OK {
		l.t.Fatal("a result has the error", e)
	}
}

func (l laws) isolate(p []api.Wide) []api.Cell {
	l.t.Helper()
	list, e := roots.Isolate(p)
	l.ok(e)
	return list
}

func (l laws) has(p []api.Wide, c api.Cell) int {
	l.t.Helper()
	n, e := roots.Has(p, c)
	l.ok(e)
	return n
}

func (l laws) sign(p []api.Wide, c api.Cell, q []api.Wide) int {
	l.t.Helper()
	n, e := roots.SignAt(p, c, q)
	l.ok(e)
	return n
}

// ends are both ends of a cell.
func (l laws) ends(c api.Cell) (low, high api.Frac) {
	l.t.Helper()
	next, e := wide.Add(c.At, wide.From(1))
	l.ok(e)
	up, e := wide.Shift(wide.From(1), max(c.Exp, 0))
	l.ok(e)
	for i, at := range []api.Wide{c.At, next} {
		num, e := wide.Shift(at, max(-c.Exp, 0))
		l.ok(e)
		x, e := frac.Make(num, up)
		l.ok(e)
		if i == 0 {
			low = x
		} else {
			high = x
		}
	}
	return low, high
}

// count is the number of roots between two numbers.
func (l laws) count(p []api.Wide, low, high api.Frac) int {
	l.t.Helper()
	n, e := roots.Count(p, low, high)
	l.ok(e)
	return n
}

// P5.5: the cells of an isolation have no number in common, and their number
// is that of all real roots; each of them has one.
func TestCells(t *testing.T) {
	l := laws{t}
	for _, p := range randoms(61, 60) {
		p := p.wides()
		list := l.isolate(p)
		far, _ := frac.Make(whole(power(1400)), wide.From(1))
		before, _ := frac.Neg(far)
		if all := l.count(p, before, far); all != len(list) {
			t.Error("not all roots", p, len(list), all)
		}
		for i, c := range list {
			low, high := l.ends(c)
			if l.count(p, low, high) != 1 || l.has(p, c) != 1 {
				t.Error("not one root", p, c)
			}
			below := l.count(p, before, low)
			if beyond := l.count(p, high, far); below != i || beyond != len(list)-i-1 {
				t.Error("roots beside a cell", p, c, below, beyond)
			}
			if i == 0 {
				continue
			}
			if _, end := l.ends(list[i-1]); order(end, low) > 0 {
				t.Error("cells have numbers in common", p, i)
			}
		}
	}
}

// order compares two fractions.
func order(a, b api.Frac) int {
	n, _ := frac.Cmp(a, b)
	return n
}

// factors are polynomials of low degree, of which two may have roots in common.
func factors(seed int64, count int) []exact {
	r := rand.New(rand.NewSource(seed))
	list := []exact{ints(-2, 0, 1), ints(0, 1), ints(-1, 0, 1), ints(0, 0, 3), ints(1, 1, 1), ints(5), ints(1, -3, 0, 1), ints(2, -3, 1)}
	for range count {
		list = append(list, some(r, 4, 5), some(r, 4, 60), some(r, 2, 3).mul(list[r.Intn(8)]))
	}
	return list
}

// P5.5: a product has the roots of its factors.
func TestProducts(t *testing.T) {
	l := laws{t}
	list := factors(62, 8)
	for _, x := range list {
		for _, y := range list {
			p, q := x.wides(), y.wides()
			product, e := poly.Mul(p, q)
			if e != api.OK {
				continue
			}
			both, e := poly.Gcd(p, q)
			l.ok(e)
			cells := l.isolate(product)
			if n := len(l.isolate(p)) + len(l.isolate(q)) - len(l.isolate(both)); n != len(cells) {
				t.Error("the number of roots of a product", x, y, len(cells), n)
			}
			for _, c := range cells {
				atP, atQ := l.sign(product, c, p), l.sign(product, c, q)
				if atP != 0 && atQ != 0 || l.has(p, c) != 1-atP*atP || l.has(q, c) != 1-atQ*atQ {
					t.Error("the roots of a product", x, y, c, atP, atQ)
				}
			}
			for _, factor := range [][]api.Wide{p, q} {
				for _, c := range l.isolate(factor) {
					if l.has(product, c) < 1 || l.sign(factor, c, product) != 0 {
						t.Error("the roots of a factor", x, y, c)
					}
				}
			}
		}
	}
}

// P5.5 with P5.4: the part that Refine returns and the cell have the same
// root, with the same interval and the same signs.
func TestParts(t *testing.T) {
	l := laws{t}
	r := rand.New(rand.NewSource(63))
	for _, p := range randoms(64, 30) {
		p, q := p.wides(), some(r, 4, 40).wides()
		for _, c := range l.isolate(p) {
			deep, e := roots.Refine(p, c, c.Exp+r.Intn(300))
			l.ok(e)
			x, e := roots.Interval(p, c)
			y, f := roots.Interval(p, deep)
			if x != y || e != f || l.has(p, deep) != 1 || l.sign(p, c, q) != l.sign(p, deep, q) {
				t.Error("a part of a cell", p, c, deep, x, y, e, f)
			}
		}
	}
}
