package frac

import (
	"planisphere/api"
	"planisphere/wide"
)

// Floor returns the greatest whole number that is not greater.
func Floor(f api.Frac) (api.Wide, api.Errno) { return change(f, ratio.floor) }

// Ceil returns the least whole number that is not less.
func Ceil(f api.Frac) (api.Wide, api.Errno) { return change(f, ratio.ceil) }

// Round returns the whole number that is rounded half to even.
func Round(f api.Frac) (api.Wide, api.Errno) { return change(f, ratio.round) }

func (f ratio) floor() api.Wide {
	whole, _ := quotient(f.Num, f.Den)
	return whole
}

func (f ratio) ceil() api.Wide {
	whole, rest := quotient(f.Num, f.Den)
	if len(rest.Mag) == 0 {
		return whole
	}
	return next(whole)
}

func (f ratio) round() api.Wide {
	whole, rest := quotient(f.Num, f.Den)
	// What is missing is compared with the rest, since twice the rest may have
	// no valid form.
	missing := must(wide.Sub(f.Den, rest))
	switch must(wide.Cmp(rest, missing)) {
	case -1:
		return whole
	case 0:
		if isEven(whole) {
			return whole
		}
	}
	return next(whole)
}

// next returns the number that follows a whole number.
func next(w api.Wide) api.Wide {
	return must(wide.Add(w, wide.From(1)))
}

// isEven reports whether a whole number is even.
func isEven(w api.Wide) bool {
	return len(w.Mag) == 0 || w.Mag[0]%2 == 0
}
