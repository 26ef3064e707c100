package frame

import "planisphere/api"

const (
	wordWidth = 4  // bytes of a number of a sum
	codeWidth = 16 // characters of a code
)

// outOfCodes are the characters between the digits and the letters.
var outOfCodes = [...]struct{ least, most int }{{58, 64}, {91, 96}}

// Sum returns the sum of bytes.
func Sum(b string) (uint32, api.Errno) {
	if len(b)%wordWidth != 0 {
		return 0, api.ErrArg
	}
	return sum(b), api.OK
}

// sum returns the sum of bytes, whose number is a multiple of 4.
func sum(b string) uint32 {
	total := uint64(0)
	for i := 0; i < len(b); i += wordWidth {
		total += unsigned(b[i : i+wordWidth])
		total = total>>32 + total&(1<<32-1)
	}
	return uint32(total)
}

// unsigned returns the number without a sign that bytes stand for, the highest
// one first.
func unsigned(b string) uint64 {
	n := uint64(0)
	for i := range len(b) {
		n = n<<8 | uint64(b[i])
	}
	return n
}

// Code returns the code of a number.
func Code(v uint32) string {
	var code [codeWidth]byte
	for i := range wordWidth {
		for j, n := range quarters(int(v >> (8 * (wordWidth - 1 - i)) & 255)) {
			code[(wordWidth*j+i+1)%codeWidth] = byte(n)
		}
	}
	return string(code[:])
}

// quarters returns the four characters that stand for a byte.
func quarters(b int) [4]int {
	quarter := b/4 + '0'
	q := [4]int{quarter + b%4, quarter, quarter, quarter}
	part(&q[0], &q[1])
	part(&q[2], &q[3])
	return q
}

// part moves two characters away from each other until both are such that codes
// have them.
func part(a, b *int) {
	for isOut(*a) || isOut(*b) {
		*a, *b = *a+1, *b-1
	}
}

// isOut reports whether codes must not have a character.
func isOut(n int) bool {
	for _, out := range outOfCodes {
		if out.least <= n && n <= out.most {
			return true
		}
	}
	return false
}
