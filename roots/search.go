package roots

import (
	"planisphere/api"
	"planisphere/sure"
	"planisphere/terms"
	"planisphere/wide"
)

// part is a cell of a search: with the changes of sign at both ends, and with
// the number by which the search tries to make its Exp greater.
type part struct {
	api.Cell
	low, high int
	step      int
}

func (c part) roots() int { return c.low - c.high }

func (c part) isSingle() bool { return c.roots() == 1 }

// part returns a cell as a part.
func (s chain) part(c api.Cell) part {
	low, high := ends(c)
	return part{Cell: c, low: s.changes(low), high: s.changes(high)}
}

// beginning returns the two cells with which an isolation begins.
func (s chain) beginning() []part {
	exp := -bound(s[0])
	return []part{
		s.part(api.Cell{At: wide.From(-1), Exp: exp}),
		s.part(api.Cell{Exp: exp}),
	}
}

// search divides parts until they are done or have an Exp, and returns those
// that have roots, in increasing order.
func (s chain) search(begin []part, deepest int, isDone func(part) bool) []part {
	var waiting stack[part]
	var found []part
	waiting.push(begin...)
	for c, ok := waiting.pop(); ok; c, ok = waiting.pop() {
		switch {
		case c.roots() == 0:
		case c.Exp == deepest || isDone(c):
			found = append(found, c)
		default:
			waiting.push(s.divided(c, deepest)...)
		}
	}
	return found
}

// narrowed returns the cell with an Exp that has the root of a part.
func (s chain) narrowed(c part, exp int) api.Cell {
	found := s.search([]part{c}, exp, func(part) bool { return false })
	return found[0].Cell
}

// signBeside returns the sign of another polynomial at the root of a part, at
// which it is not 0.
func (s chain) signBeside(c part, q []api.Wide) (int, api.Errno) {
	within := sturm(q).within
	isAlone := func(c part) bool { return within(c.Cell) == 0 }
	last := s.search([]part{c}, api.MaxDeep, isAlone)[0]
	if !isAlone(last) {
		return 0, api.ErrOpen
	}
	_, high := ends(last.Cell)
	return signOf(q, high), api.OK
}

// divided returns parts of a part that have all its roots. Halving alone could
// take thousands of steps, with long numbers, where roots are close to each
// other; so the step is doubled as long as a guess is right.
func (s chain) divided(c part, deepest int) []part {
	for step := min(c.step, deepest-c.Exp); step > 1; step /= 2 {
		if next, ok := s.leap(c, step); ok {
			return []part{next}
		}
	}
	return s.halves(c)
}

// halves returns the halves of a part.
func (s chain) halves(c part) []part {
	exp, at := c.Exp+1, sure.Shift(c.At, 1)
	middle := after(at)
	changes := s.changes(place(middle, exp))
	return []part{
		{Cell: api.Cell{At: at, Exp: exp}, low: c.low, high: changes, step: 2},
		{Cell: api.Cell{At: middle, Exp: exp}, low: changes, high: c.high, step: 2},
	}
}

// leap returns the cell in a part, with an Exp that is greater by a step, that
// has all its roots, if it is where it is guessed, or at an end: there are roots
// that have others close to them beyond the end.
func (s chain) leap(c part, step int) (part, bool) {
	exp := c.Exp + step
	changes := func(at api.Wide) int { return s.changes(place(at, exp)) }
	if at, ok := s.guess(c.Cell, step); ok {
		switch changes(at) {
		case c.low:
			if changes(after(at)) == c.high {
				return c.inner(at, exp), true
			}
		case c.high:
			if changes(before(at)) == c.low {
				return c.inner(before(at), exp), true
			}
		}
	}
	first, last := sure.Shift(c.At, step), before(sure.Shift(after(c.At), step))
	if changes(after(first)) == c.high {
		return c.inner(first, exp), true
	}
	return c.inner(last, exp), changes(last) == c.low
}

// inner returns a cell of a part that has all its roots.
func (c part) inner(at api.Wide, exp int) part {
	return part{Cell: api.Cell{At: at, Exp: exp}, low: c.low, high: c.high, step: 2 * (exp - c.Exp)}
}

// guess returns about where the roots of a cell are: the nearest end of the
// cells with an Exp that is greater by a step. As the quotient of a polynomial
// and its derivative is nearly linear where its roots are far less apart from
// each other than from the end, a line through both ends of its graph says
// where it is 0.
func (s chain) guess(c api.Cell, step int) (api.Wide, bool) {
	low, high := ends(c)
	a, b := s.cross(low, high), s.cross(high, low)
	length := sure.Sub(a, b)
	if sure.Sign(a)*sure.Sign(b) > 0 || sure.IsZero(length) {
		return api.Wide{}, false
	}
	twice := sure.Shift(length, 1)
	share := sure.Over(sure.Add(sure.Shift(a, step+1), length), twice)
	return sure.Add(sure.Shift(c.At, step), share), true
}

// cross returns the product of the values of the first polynomial at a number
// and of the second one at another, times a power of their Den.
func (s chain) cross(x, y api.Frac) api.Wide {
	a, _ := terms.Value(s[0], x)
	b, _ := terms.Value(s[1], y)
	return sure.Mul(a, b)
}
