package card_test

import (
	"slices"
	"testing"
	"unsafe"

	"planisphere/api"
	"planisphere/card"
)

// spare is a list that has other cards behind it in memory.
func spare(l []api.Card) []api.Card {
	return append(slices.Clone(l), whole("X", 1), whole("Y", 2))[:len(l)]
}

// isSpare reports whether such a list is as it was.
func isSpare(l, was []api.Card) bool {
	return len(l) == len(was) && same(l[:len(l)+2], append(slices.Clone(was), whole("X", 1), whole("Y", 2)))
}

// R2: lists are not modified, with the memory behind them, and results are new
// ones.
func TestMemory(t *testing.T) {
	all := cards(14)
	for count := range api.MaxCards {
		was := all[count : 2*count]
		l := spare(was)
		card.Print(l)
		card.Find(l, "X")
		for _, c := range []api.Card{whole("X", 5), whole("T", 5), {Kind: api.CardNote}, {}} {
			put, _ := card.Put(l, c)
			put = put[:cap(put)]
			for i := range put {
				put[i] = api.Card{Key: "SPOILT"}
			}
		}
		if !isSpare(l, was) {
			t.Error(count, "cards have changed")
		}
	}
}

// R2: what is read does not keep the lines in memory.
func TestNewStrings(t *testing.T) {
	s := file("KEY     = 'text' / note", "COMMENT text", "HISTORY text", "T       = 'x&'", "CONTINUE  'y'", "N       = 1")
	l, e := card.Parse(s)
	if e != api.OK {
		t.Fatal(e)
	}
	begin := uintptr(unsafe.Pointer(unsafe.StringData(s)))
	for _, c := range l {
		for _, part := range []string{c.Key, c.Text, c.Note} {
			if at := uintptr(unsafe.Pointer(unsafe.StringData(part))); part != "" && begin <= at && at < begin+uintptr(len(s)) {
				t.Errorf("%q is a part of the lines", part)
			}
		}
	}
}

// R2: nothing is kept from call to call.
func TestCallsAlone(t *testing.T) {
	s := file("T       = 'a&'")
	for range 3 {
		fails(t, file("T       = 'a&'", "CONTINUE  1"))
		parses(t, s, api.Card{Key: "T", Kind: api.CardText, Text: "a&"})
		fails(t, file("CONTINUE  'b'"))
	}
}
