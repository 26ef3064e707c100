package frame_test

import (
	"bytes"
	"encoding/binary"
	"fmt"
	"math/big"
	"math/rand"
	"slices"
	"strings"
	"testing"

	"planisphere/api"
	"planisphere/card"
	"planisphere/frame"
)

// line is a text with so many spaces behind it that it is a line.
func line(s string) string { return fmt.Sprintf("%-80s", s) }

// many is a text of so many equal parts.
func many(part string, count int) string { return strings.Repeat(part, count) }

// filled is a text with so many equal characters behind it that it is blocks.
func filled(s, with string) string { return s + many(with, (2880-len(s)%2880)%2880) }

// total is the sum of bytes: what their numbers leave if they are divided by
// 2^32 - 1, but only without any bits it is 0.
func total(b string) uint32 {
	all := new(big.Int)
	for i := 0; i < len(b); i += 4 {
		all.Add(all, new(big.Int).SetBytes([]byte(b[i:i+4])))
	}
	most := big.NewInt(1<<32 - 1)
	rest := new(big.Int).Mod(all, most)
	if rest.Sign() == 0 && all.Sign() != 0 {
		rest = most
	}
	return uint32(rest.Uint64())
}

// code is the code of a number, step by step as the chapter describes it.
func code(v uint32) string {
	text := make([]byte, 16)
	bad := func(c byte) bool { return strings.IndexByte(":;<=>?@[\\]^_`", c) >= 0 }
	for i, b := range binary.BigEndian.AppendUint32(nil, v) {
		c := [4]byte{b/4 + b%4 + 48, b/4 + 48, b/4 + 48, b/4 + 48}
		for again := true; again; {
			again = false
			for j := 0; j < 4; j += 2 {
				if bad(c[j]) || bad(c[j+1]) {
					c[j], c[j+1], again = c[j]+1, c[j+1]-1, true
				}
			}
		}
		for j := range c {
			text[4*j+i] = c[j]
		}
	}
	return string(text[15]) + string(text[:15])
}

// first is the lines of a header in front of those of Cards.
func first(f api.Frame, start bool) []string {
	l := []string{line("XTENSION= 'IMAGE   '")}
	if start {
		l[0] = line(fmt.Sprintf("SIMPLE  = %20s", "T"))
	}
	l = append(l, line(fmt.Sprintf("BITPIX  = %20d", f.Bits)), line(fmt.Sprintf("NAXIS   = %20d", len(f.Shape))))
	for i, length := range f.Shape {
		l = append(l, line(fmt.Sprintf("NAXIS%d  = %20d", i+1, length)))
	}
	if !start {
		l = append(l, line(fmt.Sprintf("PCOUNT  = %20d", 0)), line(fmt.Sprintf("GCOUNT  = %20d", 1)))
	}
	return l
}

// header is the lines of a header in front of those of the sums.
func header(f api.Frame, start bool) []string {
	cards, e := card.Print(f.Cards)
	if e != api.OK {
		panic(e)
	}
	return append(first(f, start), cards)
}

// data is the elements of a frame in whole blocks.
func data(f api.Frame) string {
	var b bytes.Buffer
	for _, n := range f.Raw {
		number := map[int]any{8: uint8(n), 16: int16(n), 32: int32(n), 64: n}[f.Bits]
		if err := binary.Write(&b, binary.BigEndian, number); err != nil {
			panic(err)
		}
	}
	return filled(b.String(), "\x00")
}

// plain is a unit with these lines and data.
func plain(lines []string, data string) string {
	return filled(strings.Join(lines, "")+line("END"), " ") + data
}

// dataSum is the line of DATASUM.
func dataSum(data string) string {
	return line(fmt.Sprintf("DATASUM = '%-8s'", fmt.Sprint(total(data))))
}

// noSum is the line of CHECKSUM without a code.
const noSum = "CHECKSUM= '0000000000000000'                                                    "

// coded is a unit in which the text of CHECKSUM is the code that it must be.
func coded(unit string) string {
	return strings.Replace(unit, noSum, line("CHECKSUM= '"+code(1<<32-1-total(unit))+"'"), 1)
}

// sealed is a unit with these lines, with those of the sums, and with data.
func sealed(lines []string, data string) string {
	return coded(plain(append(slices.Clone(lines), dataSum(data), noSum), data))
}

// written is the file of frames.
func written(l []api.Frame) string {
	s := ""
	for i, f := range l {
		s += sealed(header(f, i == 0), data(f))
	}
	return s
}

// same reports whether two frames are equal.
func same(a, b api.Frame) bool {
	return a.Bits == b.Bits && slices.Equal(a.Shape, b.Shape) && slices.Equal(a.Raw, b.Raw) && slices.Equal(a.Cards, b.Cards)
}

// parses checks which frames are read from a file.
func parses(t *testing.T, s string, want ...api.Frame) {
	t.Helper()
	l, e := frame.Parse(s)
	if e != api.OK || !slices.EqualFunc(l, want, same) {
		t.Errorf("%.400q: %.400v %v instead of %.400v", s, l, e, want)
	}
}

// fails checks with which error a file is not read.
func fails(t *testing.T, s string, want api.Errno) {
	t.Helper()
	if l, e := frame.Parse(s); e != want || l != nil {
		t.Errorf("%.400q: %.400v %v instead of %v", s, l, e, want)
	}
}

// of is a frame with elements that are zero, without cards.
func of(bits int, shape ...int) api.Frame {
	f := api.Frame{Bits: bits, Shape: shape}
	if len(shape) > 0 {
		count := 1
		for _, length := range shape {
			count *= length
		}
		f.Raw = make([]int64, count)
	}
	return f
}

// with is a frame with so many cards.
func with(f api.Frame, count int) api.Frame {
	f.Cards = nil
	for i := range count {
		f.Cards = append(f.Cards, api.Card{Key: fmt.Sprint("KEY", i), Kind: api.CardWhole, N: int64(i)})
	}
	return f
}

// some are cards of all kinds.
func some() []api.Card {
	return []api.Card{
		{Kind: api.CardNote}, {Key: "COMMENT", Kind: api.CardNote, Text: "SIMPLE"}, {Key: "HISTORY", Kind: api.CardNote, Text: many("x", 72)},
		{Kind: api.CardNote, Text: "END"}, {Key: "ENDS", Kind: api.CardEmpty}, {Key: "FLAG", Kind: api.CardFlag, Yes: true, Note: "a flag"},
		{Key: "NAXIS4", Kind: api.CardWhole, N: 1}, {Key: "NAXIS0", Kind: api.CardWhole, N: -1 << 63}, {Key: "SIMPLE_", Kind: api.CardReal, N: 125, E: -2},
		{Key: "BSCALE", Kind: api.CardReal, N: -25, E: -1}, {Key: "BZERO", Kind: api.CardWhole, N: 32768}, {Key: "BSCALE", Kind: api.CardText, Text: "7"},
		{Key: "OBJECT", Kind: api.CardText, Text: "o'k&"}, {Key: "LONG", Kind: api.CardText, Text: many("'&", 150)}, {Key: "LONG", Kind: api.CardText, Text: many("END ", 74) + "END"},
		{Key: "DATASUMS", Kind: api.CardText, Text: "0"}, {Key: "XTENSIO", Kind: api.CardText, Text: "IMAGE"},
	}
}

// limit is the least and the greatest element of so many bits.
func limit(bits int) (least, most int64) {
	switch bits {
	case 8:
		return 0, 255
	case 16:
		return -32768, 32767
	case 32:
		return -2147483648, 2147483647
	}
	return -9223372036854775808, 9223372036854775807
}

// shapes are valid shapes.
func shapes() [][]int {
	return [][]int{
		nil, {1}, {2}, {9}, {1, 1}, {2, 3}, {3, 2}, {1, 1, 1}, {2, 3, 4}, {4, 1, 5}, {360}, {361}, {720}, {721}, {1440}, {1441}, {2879}, {2880}, {2881},
		{40, 36}, {10000}, {1, 10000}, {100, 100}, {1, 1, 10000}, {10, 20, 50}, {3333, 3},
	}
}

// random is a valid frame.
func random(r *rand.Rand) api.Frame {
	f := of([]int{8, 16, 32, 64}[r.Intn(4)], make([]int, r.Intn(4))...)
	count := 1
	for i := range f.Shape {
		f.Shape[i] = 1 + r.Intn(min(12, 1000/count))
		count *= f.Shape[i]
	}
	f = of(f.Bits, f.Shape...)
	for i := range f.Raw {
		f.Raw[i] = element(r, f.Bits)
	}
	pool := some()
	for range r.Intn(20) {
		f.Cards = append(f.Cards, pool[r.Intn(len(pool))])
	}
	return f
}

// element is an element of so many bits, often one at a limit.
func element(r *rand.Rand, bits int) int64 {
	least, most := limit(bits)
	switch r.Intn(6) {
	case 0:
		return least
	case 1:
		return most
	case 2:
		return 0
	}
	n := int64(r.Uint64()) >> r.Intn(64)
	return max(least, min(most, n))
}

// frames are valid frames.
func frames(seed int64) []api.Frame {
	r := rand.New(rand.NewSource(seed))
	var l []api.Frame
	for _, bits := range []int{8, 16, 32, 64} {
		for _, shape := range shapes() {
			f := of(bits, shape...)
			for i := range f.Raw {
				f.Raw[i] = element(r, bits)
			}
			l = append(l, f)
		}
	}
	// Headers that fill their blocks just so, and those beside them.
	for count := 26; count <= 32; count++ {
		l = append(l, with(of(16), count), with(of(16, 2, 2, 2), count+36))
	}
	l = append(l, with(of(8, 1), api.MaxExtra))
	for range 60 {
		l = append(l, random(r))
	}
	return l
}
