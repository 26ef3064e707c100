package wide

import (
	"slices"
	"strconv"
	"strings"

	"planisphere/api"
)

const (
	// maxDigits is the number of decimal digits of 2^131072 - 1.
	maxDigits = 39457
	// groupDigits is the number of decimal digits that are read or written at
	// once: as many as a limb has room for.
	groupDigits = 9
	groupSize   = 1000000000
)

// Parse returns the number with a text.
func Parse(s string) (api.Wide, api.Errno) {
	digits, neg := strings.CutPrefix(s, "-")
	if !isText(digits) || neg && digits == "0" {
		return api.Wide{}, api.ErrForm
	}
	if len(digits) > maxDigits {
		return api.Wide{}, api.ErrRange
	}
	return made(neg, read(digits))
}

// isText reports whether digits are the text of an absolute value.
func isText(digits string) bool {
	for _, c := range digits {
		if c < '0' || c > '9' {
			return false
		}
	}
	return digits == "0" || digits != "" && digits[0] != '0'
}

// read returns the absolute value with a text.
func read(digits string) []uint32 {
	mag := make([]uint32, 0, len(digits)/groupDigits+1)
	group := uint64(0)
	for i, c := range digits {
		group = group*10 + uint64(c-'0')
		if left := len(digits) - 1 - i; left%groupDigits == 0 {
			mag = pushGroup(mag, group)
			group = 0
		}
	}
	return mag
}

// pushGroup replaces an absolute value by the one whose text has a group of
// digits more.
func pushGroup(mag []uint32, group uint64) []uint32 {
	carry := group
	for i, x := range mag {
		carry += uint64(x) * groupSize
		mag[i] = uint32(carry)
		carry >>= limbBits
	}
	if carry > 0 {
		mag = append(mag, uint32(carry))
	}
	return mag
}

// Text returns the text of a number.
func Text(w api.Wide) (string, api.Errno) {
	if e := Check(w); e != api.OK {
		return "", e
	}
	if len(w.Mag) == 0 {
		return "0", api.OK
	}
	all := groups(w.Mag)
	text := make([]byte, 0, 1+len(all)*groupDigits)
	if w.Neg {
		text = append(text, '-')
	}
	for i, group := range slices.Backward(all) {
		if i < len(all)-1 {
			text = appendPadded(text, group)
		} else {
			text = strconv.AppendUint(text, uint64(group), 10)
		}
	}
	return string(text), api.OK
}

// groups returns the groups of the digits of an absolute value, the lowest one
// first.
func groups(mag []uint32) []uint32 {
	rest := slices.Clone(mag)
	var all []uint32
	for len(rest) > 0 {
		all = append(all, divideLimb(rest, groupSize))
		rest = trim(rest)
	}
	return all
}

// appendPadded appends a group with all of its digits.
func appendPadded(text []byte, group uint32) []byte {
	for unit := uint32(groupSize / 10); unit > 0; unit /= 10 {
		text = append(text, byte('0'+group/unit%10))
	}
	return text
}
