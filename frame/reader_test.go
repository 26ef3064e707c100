package frame_test

import (
	"encoding/binary"
	"fmt"
	"regexp"
	"slices"
	"strings"

	"planisphere/api"
	"planisphere/card"
	"planisphere/frame"
)

// end is the line END, and the spaces behind it.
var end = regexp.MustCompile(`^END {77} *$`)

// read reads a file: the first cards are those that a header must have which says
// of them what they say themselves.
func read(s string) ([]api.Frame, api.Errno) {
	var l []api.Frame
	var sums []bool
	for s != "" || l == nil {
		f, rest, right, ok := readUnit(s, l == nil)
		if !ok {
			return nil, api.ErrForm
		}
		l, sums, s = append(l, f), append(sums, right), rest
	}
	if len(l) > 10 {
		return nil, api.ErrMany
	}
	if slices.Contains(sums, false) {
		return nil, api.ErrSum
	}
	return l, api.OK
}

// readUnit reads a unit, and says what is behind it, whether its sums are right,
// and whether it can be read.
func readUnit(s string, start bool) (f api.Frame, rest string, right, ok bool) {
	lines := ""
	at := 0
	for found := false; !found; at += 2880 {
		if at+2880 > len(s) {
			return
		}
		for i := at; i < at+2880 && !found; i += 80 {
			if s[i:i+80] == line("END") {
				if !end.MatchString(s[i : at+2880]) {
					return
				}
				lines, found = s[:i], true
			}
		}
	}
	l, e := card.Parse(lines)
	if e != api.OK || len(l) < 3 {
		return
	}
	f.Bits = int(l[1].N)
	for i := 3; i < len(l) && i < 3+int(min(3, l[2].N)); i++ {
		f.Shape = append(f.Shape, int(l[i].N))
	}
	must, _ := card.Parse(strings.Join(first(f, start), ""))
	if len(l) < len(must) {
		return
	}
	for i, c := range l[:len(must)] {
		if c.Note = ""; c != must[i] {
			return
		}
	}
	var size int
	if len(f.Shape) > 0 {
		size = 1
	}
	for _, length := range f.Shape {
		if length < 1 || length > 10000 {
			return
		}
		size *= length
	}
	if size > 10000 || !slices.Contains([]int{8, 16, 32, 64}, f.Bits) {
		return
	}
	size = (size*f.Bits/8 + 2879) / 2880 * 2880
	if at+size > len(s) {
		return
	}
	whole, bytes := s[:at+size], s[at:at+size]
	right = true
	sums := map[string]int{}
	for _, c := range l[len(must):] {
		switch {
		case c.Key != "DATASUM" && c.Key != "CHECKSUM":
			f.Cards = append(f.Cards, c)
			continue
		case sums[c.Key] > 0 || c.Kind != api.CardText:
			return
		case c.Key == "DATASUM":
			right = right && c.Text == fmt.Sprint(total(bytes))
		default:
			right = right && total(whole) == 1<<32-1
		}
		sums[c.Key]++
	}
	f.Raw = elements(f, bytes)
	return f, s[at+size:], right, frame.Check(f) == api.OK && data(f) == bytes
}

// elements are the numbers that bytes stand for.
func elements(f api.Frame, bytes string) []int64 {
	var l []int64
	count := len(of(f.Bits, f.Shape...).Raw)
	for i := range count {
		b := []byte(bytes[i*f.Bits/8:])
		switch f.Bits {
		case 8:
			l = append(l, int64(b[0]))
		case 16:
			l = append(l, int64(int16(binary.BigEndian.Uint16(b))))
		case 32:
			l = append(l, int64(int32(binary.BigEndian.Uint32(b))))
		case 64:
			l = append(l, int64(binary.BigEndian.Uint64(b)))
		}
	}
	return l
}
