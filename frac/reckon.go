package frac

import (
	"planisphere/api"
	"planisphere/wide"
)

// Add returns the sum.
func Add(a, b api.Frac) (api.Frac, api.Errno) { return join(a, b, ratio.plus) }

// Sub returns the difference.
func Sub(a, b api.Frac) (api.Frac, api.Errno) { return join(a, b, ratio.minus) }

// Mul returns the product.
func Mul(a, b api.Frac) (api.Frac, api.Errno) { return join(a, b, ratio.times) }

// Div returns the quotient.
func Div(a, b api.Frac) (api.Frac, api.Errno) { return join(a, b, ratio.over) }

// Neg returns the negative.
func Neg(f api.Frac) (api.Frac, api.Errno) { return change(f, ratio.negative) }

// Cmp returns -1 if a is less than b, 1 if it is greater, and 0 if they are equal.
func Cmp(a, b api.Frac) (int, api.Errno) { return join(a, b, ratio.compare) }

// Sum returns the sum of the elements of a list.
func Sum(l []api.Frac) (api.Frac, api.Errno) {
	return attempt(func() api.Frac { return total(l) })
}

// total returns the sum of the elements of a list.
func total(l []api.Frac) api.Frac {
	for _, f := range l {
		known(f)
	}
	if len(l) > api.MaxSum {
		panic(api.ErrMany)
	}
	sum := api.Frac{Den: wide.From(1)}
	for _, f := range l {
		sum = ratio(sum).plus(ratio(f))
	}
	return sum
}

func (a ratio) plus(b ratio) api.Frac { return a.add(b, wide.Add) }

func (a ratio) minus(b ratio) api.Frac { return a.add(b, wide.Sub) }

// add returns the sum, or the difference.
func (a ratio) add(b ratio, combine func(a, b api.Wide) (api.Wide, api.Errno)) api.Frac {
	num := must(combine(product(a.Num, b.Den), product(b.Num, a.Den)))
	den := product(a.Den, b.Den)
	// Only divisors that the denominators share can divide both num and den:
	// shared, and what it and the rest of num share. They are shorter than num
	// and den, and often 1.
	shared := must(wide.Gcd(a.Den, b.Den))
	if isOne(shared) {
		return api.Frac{Num: num, Den: den}
	}
	rest, _ := quotient(num, shared)
	common := product(shared, must(wide.Gcd(rest, shared)))
	return divided(num, den, common)
}

func (a ratio) times(b ratio) api.Frac {
	return ratio{Num: product(a.Num, b.Num), Den: product(a.Den, b.Den)}.reduced()
}

func (a ratio) over(b ratio) api.Frac {
	return ratio{Num: product(a.Num, b.Den), Den: product(a.Den, b.Num)}.reduced()
}

func (a ratio) compare(b ratio) int {
	return must(wide.Cmp(product(a.Num, b.Den), product(b.Num, a.Den)))
}

func (f ratio) negative() api.Frac {
	// Abs is a copy of Den here, which the result must not share.
	return api.Frac{Num: must(wide.Neg(f.Num)), Den: must(wide.Abs(f.Den))}
}
