// Package sure reckons with the whole numbers of package wide where it is sure
// that all of them are valid and that no result is too long. Its results have
// no error; one that is out of range all the same would be 0.
package sure

import (
	"planisphere/api"
	"planisphere/wide"
)

// Add returns the sum.
func Add(a, b api.Wide) api.Wide { return kept(wide.Add(a, b)) }

// Sub returns the difference.
func Sub(a, b api.Wide) api.Wide { return kept(wide.Sub(a, b)) }

// Mul returns the product.
func Mul(a, b api.Wide) api.Wide { return kept(wide.Mul(a, b)) }

// Neg returns the negative.
func Neg(w api.Wide) api.Wide { return kept(wide.Neg(w)) }

// Abs returns the absolute value.
func Abs(w api.Wide) api.Wide { return kept(wide.Abs(w)) }

// Gcd returns the greatest common divisor.
func Gcd(a, b api.Wide) api.Wide { return kept(wide.Gcd(a, b)) }

// Shift returns the number times 2^k, rounded down.
func Shift(w api.Wide, k int) api.Wide { return kept(wide.Shift(w, k)) }

// Over returns the quotient by a number other than 0, rounded down.
func Over(a, b api.Wide) api.Wide {
	q, _, e := wide.DivMod(a, b)
	return kept(q, e)
}

// Cmp returns -1 if a is less than b, 1 if it is greater, and 0 if they are equal.
func Cmp(a, b api.Wide) int { return kept(wide.Cmp(a, b)) }

// Sign compares a number with 0.
func Sign(w api.Wide) int { return kept(wide.Sign(w)) }

// Bits returns how many binary digits the absolute value has.
func Bits(w api.Wide) int { return kept(wide.Bits(w)) }

// IsZero reports whether a number is 0.
func IsZero(w api.Wide) bool { return len(w.Mag) == 0 }

// IsOne reports whether a number is 1.
func IsOne(w api.Wide) bool { return !w.Neg && len(w.Mag) == 1 && w.Mag[0] == 1 }

// kept returns a result without its error.
func kept[T any](result T, _ api.Errno) T { return result }
