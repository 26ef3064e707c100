package frame_test

import (
	"math/rand"
	"slices"
	"testing"

	"planisphere/api"
	"planisphere/card"
	"planisphere/frame"
)

// file is the bytes of frames.
func file(t *testing.T, l ...api.Frame) string {
	t.Helper()
	s, e := frame.Bytes(l)
	if e != api.OK {
		t.Fatal(e)
	}
	return s
}

// P9.5: Parse of Bytes is the list.
func TestBytesAndParse(t *testing.T) {
	all := frames(8)
	for at := range all {
		l := all[at:min(len(all), at+1+at%api.MaxFrames)]
		parses(t, file(t, l...), l...)
	}
	// The largest file.
	f := of(64, 100, 100)
	for range api.MaxExtra {
		f.Cards = append(f.Cards, api.Card{Key: "LONG", Kind: api.CardText, Text: many("'", 300)})
	}
	l := slices.Repeat([]api.Frame{f}, api.MaxFrames)
	parses(t, file(t, l...), l...)
}

// P9.5: the sum of each unit is 2^32 - 1.
func TestUnitSums(t *testing.T) {
	all := frames(9)
	for at, f := range all {
		other := all[(at+7)%len(all)]
		first, both := file(t, f), file(t, f, other)
		sums(t, first, 1<<32-1)
		sums(t, both[len(first):], 1<<32-1)
		if both[:len(first)] != first {
			t.Error(at, "the first unit depends on the second one")
		}
	}
}

// P9.5: if a byte of the data, or of the lines of Cards, is changed, Parse returns
// an error.
func TestChangedBytes(t *testing.T) {
	f := of(16, 3)
	f.Raw = []int64{0, -1, 258}
	f.Cards = some()
	zeros := with(of(8, 4), 2)
	s := file(t, f, zeros)
	size := len(file(t, f))
	lines, _ := card.Print(f.Cards)
	changed := func(from, to int) {
		for at := from; at < to; at++ {
			for _, by := range []byte{1, 32, 128, 255} {
				b := []byte(s)
				b[at] ^= by
				if l, e := frame.Parse(string(b)); e == api.OK || l != nil {
					t.Errorf("%v by %v: %v %v", at, by, l, e)
				}
			}
		}
	}
	changed(4*80, 4*80+len(lines))
	changed(size-2880, size)
	changed(size+6*80, size+8*80)
	changed(len(s)-2880, len(s))
}

// P9.5: any other byte, for all 256 values, in elements and in a card.
func TestEachByte(t *testing.T) {
	f := of(32, 2)
	f.Raw = []int64{-1, 0}
	f.Cards = []api.Card{{Key: "AND", Kind: api.CardEmpty}}
	s := file(t, f)
	for _, at := range []int{320, 321, 322, 323, 327, 328, 329, 330, 399, 2880, 2881, 2882, 2883, 2884, 2887, 2888, 5759} {
		for value := range 256 {
			b := []byte(s)
			b[at] = byte(value)
			if _, e := frame.Parse(string(b)); (e == api.OK) != (s[at] == byte(value)) {
				t.Error(at, value, e)
			}
		}
	}
}

// P9.3: files in which bytes, lines and blocks are changed are read as the
// chapter says, step by step.
func TestSpoiltFiles(t *testing.T) {
	r := rand.New(rand.NewSource(10))
	count := map[api.Errno]int{}
	for range 6000 {
		l := make([]api.Frame, 1+r.Intn(3))
		for i := range l {
			l[i] = random(r)
		}
		s := spoilt(r, file(t, l...))
		want, e := read(s)
		if e != api.OK {
			fails(t, s, e)
		} else {
			parses(t, s, want...)
		}
		count[e]++
	}
	if len(count) != 3 || min(count[api.OK], count[api.ErrForm], count[api.ErrSum]) < 200 {
		t.Error(count)
	}
}

// spoilt is a file in which something has been changed.
func spoilt(r *rand.Rand, s string) string {
	b := []byte(s)
	from := func(unit int) int { return r.Intn(len(b)/unit) * unit }
	for range r.Intn(3) {
		switch r.Intn(6) {
		case 0:
			b[r.Intn(len(b))] = byte(r.Intn(256))
		case 1:
			at := from(80) + r.Intn(30)
			b[at] = "01234 =T'/&EN"[r.Intn(13)]
		case 2: // two lines at the begin change their places
			i, j := 80*r.Intn(12), 80*r.Intn(12)
			line := string(b[i : i+80])
			copy(b[i:i+80], b[j:j+80])
			copy(b[j:j+80], line)
		case 3: // a line is written over
			copy(b[from(80):], line([]string{"", "END", "COMMENT x", "DATASUM = '0'", "CHECKSUM= 'x'", "NAXIS   = 0", "XTENSION= 'IMAGE' / x"}[r.Intn(7)]))
		case 4: // a sum is hidden
			for at := 0; at < len(b); at += 80 {
				if key := string(b[at : at+8]); (key == "DATASUM " || key == "CHECKSUM") && r.Intn(3) > 0 {
					copy(b[at:], "HIDDEN  ")
				}
			}
		case 5: // a block is gone, or comes twice
			at := from(2880)
			if r.Intn(4) > 0 || len(b) == 2880 {
				break
			}
			block := slices.Clone(b[at : at+2880])
			b = slices.Delete(b, at, at+2880)
			if r.Intn(2) == 0 {
				b = slices.Insert(b, at, slices.Concat(block, block)...)
			}
		}
	}
	return string(b)
}
