package frac

import (
	"strconv"
	"strings"

	"planisphere/api"
	"planisphere/wide"
)

const (
	// maxPlaces is the greatest number of digits behind the point of a decimal.
	maxPlaces = 50
	// maxExponent is the greatest number of digits of a power of ten.
	maxExponent = 3
)

// Text returns the text of a fraction.
func Text(f api.Frac) (string, api.Errno) { return change(f, ratio.text) }

func (f ratio) text() string {
	num := must(wide.Text(f.Num))
	if isOne(f.Den) {
		return num
	}
	return num + "/" + must(wide.Text(f.Den))
}

// Decimal returns a fraction with so many digits behind the point.
func Decimal(f api.Frac, digits int) (string, api.Errno) {
	return change(f, func(f ratio) string { return f.decimal(digits) })
}

func (f ratio) decimal(places int) string {
	if places < 0 || places > maxPlaces {
		panic(api.ErrArg)
	}
	f.Num = product(f.Num, power(places))
	digits, neg := strings.CutPrefix(must(wide.Text(f.round())), "-")
	text := pointed(digits, places)
	if neg {
		text = "-" + text
	}
	return text
}

// pointed returns digits with a point in front of the last ones.
func pointed(digits string, places int) string {
	if places == 0 {
		return digits
	}
	for range places + 1 - len(digits) {
		digits = "0" + digits
	}
	point := len(digits) - places
	return digits[:point] + "." + digits[point:]
}

// power returns a power of ten.
func power(k int) api.Wide {
	return must(wide.Pow(wide.From(10), k))
}

// Parse returns the fraction for which a numeral stands.
func Parse(s string) (api.Frac, api.Errno) {
	return attempt(func() api.Frac { return numeral(s).reduced() })
}

// numeral returns the two numbers for which a numeral stands.
func numeral(s string) ratio {
	if len(s) > api.MaxNumeral {
		panic(api.ErrForm)
	}
	r := &reader{left: s}
	neg := r.skip("-")
	f := r.unsigned()
	if r.left != "" {
		panic(api.ErrForm)
	}
	if neg {
		f.Num = must(wide.Neg(f.Num))
	}
	return f
}

// reader reads a numeral from its beginning to its end.
type reader struct {
	left string
}

// unsigned reads a numeral without a sign.
func (r *reader) unsigned() ratio {
	whole := r.digits()
	if r.skip("/") {
		return ratio{Num: number(whole), Den: number(r.digits())}
	}
	part := ""
	if r.skip(".") {
		part = r.digits()
	}
	f := ratio{Num: number(whole + part), Den: power(len(part))}
	if r.skip("e") {
		f = r.scaled(f)
	}
	return f
}

// scaled reads a power of ten, and returns its product with a ratio.
func (r *reader) scaled(f ratio) ratio {
	down := r.skip("-")
	digits := r.digits()
	if len(digits) > maxExponent {
		panic(api.ErrForm)
	}
	k, _ := strconv.Atoi(digits)
	if down {
		f.Den = product(f.Den, power(k))
	} else {
		f.Num = product(f.Num, power(k))
	}
	return f
}

// skip reports whether a mark comes next, and passes it.
func (r *reader) skip(mark string) bool {
	left, found := strings.CutPrefix(r.left, mark)
	r.left = left
	return found
}

// digits reads the digits that come next; without any there is no numeral.
func (r *reader) digits() string {
	count := 0
	for i := range len(r.left) {
		if c := r.left[i]; c < '0' || c > '9' {
			break
		}
		count++
	}
	if count == 0 {
		panic(api.ErrForm)
	}
	digits := r.left[:count]
	r.left = r.left[count:]
	return digits
}

// number returns the number with digits.
func number(digits string) api.Wide {
	// The texts of numbers have no zeros in front, but those of numerals may.
	digits = strings.TrimLeft(digits, "0")
	if digits == "" {
		return api.Wide{}
	}
	return must(wide.Parse(digits))
}
