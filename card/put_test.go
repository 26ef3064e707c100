package card_test

import (
	"math/rand"
	"slices"
	"testing"

	"planisphere/api"
	"planisphere/card"
)

// whole is a CardWhole.
func whole(key string, n int64) api.Card { return api.Card{Key: key, Kind: api.CardWhole, N: n} }

// strange are cards that are not valid.
func strange() []api.Card {
	return []api.Card{{}, {Key: "A", Kind: 9}, {Key: "a b", Text: "\n"}, {Key: "B", Kind: api.CardNote, N: 1}, {Key: "END", Kind: api.CardFlag}, {Key: "LONGER KEYWORD"}, {Key: "\xff"}}
}

// P8.3: Find.
func TestFind(t *testing.T) {
	list := append(strange(), whole("B", 1), whole("C", 2), whole("A", 3), whole("C", 4), api.Card{Key: "COMMENT", Kind: api.CardNote})
	for key, want := range map[string]int{"": 0, "A": 1, "a b": 2, "B": 3, "END": 4, "LONGER KEYWORD": 5, "\xff": 6, "C": 8, "COMMENT": 11} {
		if i, e := card.Find(list, key); e != api.OK || i != want {
			t.Error(key, i, e, "instead of", want)
		}
	}
	for _, key := range []string{"D", "c", "C ", " C", "CC", "HISTORY", "LONGER", "a"} {
		if i, e := card.Find(list, key); e != api.ErrNone || i != 0 {
			t.Error(key, i, e)
		}
	}
	for _, key := range []string{"", "A", "COMMENT"} {
		if i, e := card.Find(nil, key); e != api.ErrNone || i != 0 {
			t.Error(key, i, e)
		}
	}
	long := append(slices.Repeat([]api.Card{whole("A", 1)}, 1000), whole("B", 2))
	if i, e := card.Find(long, "B"); e != api.OK || i != 1000 {
		t.Error(i, e)
	}
}

// puts checks a list into which a card is put.
func puts(t *testing.T, l []api.Card, c api.Card, want ...api.Card) {
	t.Helper()
	if got, e := card.Put(l, c); e != api.OK || !same(got, want) {
		t.Errorf("%+v %+v: %+v %v instead of %+v", l, c, got, e, want)
	}
}

// P8.3: Put.
func TestPut(t *testing.T) {
	a, b, c := whole("A", 1), whole("B", 2), whole("C", 3)
	puts(t, nil, a, a)
	puts(t, []api.Card{}, a, a)
	puts(t, []api.Card{a}, b, a, b)
	puts(t, []api.Card{a, b, c}, whole("A", 9), whole("A", 9), b, c)
	puts(t, []api.Card{a, b, c}, whole("B", 9), a, whole("B", 9), c)
	puts(t, []api.Card{a, b, c}, whole("C", 9), a, b, whole("C", 9))
	puts(t, []api.Card{b, a, c, a}, whole("A", 9), b, whole("A", 9), c, a)
	puts(t, []api.Card{a, b}, a, a, b)
	flag := api.Card{Key: "A", Kind: api.CardFlag, Yes: true, Note: "n"}
	puts(t, []api.Card{b, a}, flag, b, flag)
	puts(t, []api.Card{b, flag}, a, b, a)
	for _, key := range []string{"", "COMMENT", "HISTORY"} {
		x, y := api.Card{Key: key, Kind: api.CardNote, Text: "x"}, api.Card{Key: key, Kind: api.CardNote, Text: "y"}
		puts(t, []api.Card{x, a}, y, x, a, y)
		puts(t, []api.Card{x, a}, x, x, a, x)
		puts(t, []api.Card{x, a}, b, x, a, b)
		puts(t, nil, x, x)
	}
}

// P8.3: the list may have cards that are not valid, with the same keyword too.
func TestPutAmongStrange(t *testing.T) {
	list := strange()
	for i, key := range map[int]string{1: "A", 3: "B"} {
		want := slices.Clone(list)
		want[i] = whole(key, 5)
		puts(t, list, whole(key, 5), want...)
	}
	puts(t, list, whole("C", 5), append(slices.Clone(list), whole("C", 5))...)
	remark := api.Card{Kind: api.CardNote, Text: "x"}
	puts(t, list, remark, append(slices.Clone(list), remark)...)
}

// P8.3: ErrBad, and then ErrMany.
func TestPutErrors(t *testing.T) {
	full := slices.Repeat([]api.Card{whole("A", 1), {Key: "COMMENT", Kind: api.CardNote}}, api.MaxCards/2)
	puts(t, full[:199], whole("B", 1), append(slices.Clone(full[:199]), whole("B", 1))...)
	puts(t, full, whole("A", 2), append([]api.Card{whole("A", 2)}, full[1:]...)...)
	over := append(slices.Clone(full), whole("B", 1))
	for _, c := range []api.Card{whole("C", 1), {Key: "COMMENT", Kind: api.CardNote}, {Kind: api.CardNote}} {
		if l, e := card.Put(full, c); e != api.ErrMany || l != nil {
			t.Error(c, l, e)
		}
	}
	for _, c := range []api.Card{whole("A", 1), whole("B", 1), whole("C", 1), {Key: "COMMENT", Kind: api.CardNote}} {
		if l, e := card.Put(over, c); e != api.ErrMany || l != nil {
			t.Error(c, l, e)
		}
	}
	for _, l := range [][]api.Card{nil, full[:3], full, over} {
		for _, c := range strange() {
			if l, e := card.Put(l, c); e != api.ErrBad || l != nil {
				t.Error(c, l, e)
			}
		}
	}
}

// P8.3: lists at random.
func TestRandomLists(t *testing.T) {
	r := rand.New(rand.NewSource(6))
	all := append(cards(7), strange()...)
	for i := range all {
		if len(all[i].Key) > 1 && r.Intn(2) == 0 && all[i].Kind != api.CardNote {
			all[i].Key = all[i].Key[:1]
		}
	}
	for range 3000 {
		var l []api.Card
		for range r.Intn(205) {
			l = append(l, all[r.Intn(len(all))])
		}
		c := all[r.Intn(len(all))]
		place := slices.IndexFunc(l, func(x api.Card) bool { return x.Key == c.Key })
		i, e := card.Find(l, c.Key)
		if place >= 0 && (i != place || e != api.OK) || place < 0 && (i != 0 || e != api.ErrNone) {
			t.Error(c.Key, i, e, "instead of", place)
		}
		want := append(slices.Clone(l), c)
		if place >= 0 && c.Kind != api.CardNote {
			want = slices.Clone(l)
			want[place] = c
		}
		error := api.OK
		switch {
		case card.Check(c) != api.OK:
			error, want = api.ErrBad, nil
		case len(want) > api.MaxCards:
			error, want = api.ErrMany, nil
		}
		if got, e := card.Put(l, c); e != error || !same(got, want) {
			t.Error(c, len(l), "cards", len(got), e, "instead of", len(want), error)
		}
	}
}
