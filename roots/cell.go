package roots

import (
	"planisphere/api"
	"planisphere/sure"
	"planisphere/wide"
)

// place returns the number that is at times 2^-exp, not in lowest terms.
func place(at api.Wide, exp int) api.Frac {
	return api.Frac{Num: sure.Shift(at, max(-exp, 0)), Den: sure.Shift(wide.From(1), max(exp, 0))}
}

// after returns the next whole number.
func after(w api.Wide) api.Wide { return sure.Add(w, wide.From(1)) }

// before returns the whole number before a number.
func before(w api.Wide) api.Wide { return sure.Sub(w, wide.From(1)) }

// ends returns both ends of a cell, of which it has the second one. They have
// the same Den.
func ends(c api.Cell) (low, high api.Frac) {
	return place(c.At, c.Exp), place(after(c.At), c.Exp)
}

// bound returns the least number from 0 on for which its power of 2, times the
// absolute value of the last coefficient, is at least the sum of this value and
// the greatest one of the others.
func bound(p []api.Wide) int {
	n := len(p) - 1
	last, greatest := sure.Abs(p[n]), api.Wide{}
	for _, c := range p[:n] {
		if size := sure.Abs(c); sure.Cmp(size, greatest) > 0 {
			greatest = size
		}
	}
	sum := sure.Add(last, greatest)
	b := sure.Bits(sum) - sure.Bits(last)
	if sure.Cmp(sure.Shift(last, b), sum) < 0 {
		b++
	}
	return b
}
