package card_test

import (
	"math/rand"
	"testing"

	"planisphere/api"
	"planisphere/card"
)

// P8.5: Parse of Print is the list, and each line has 80 characters.
func TestPrintAndParse(t *testing.T) {
	r := rand.New(rand.NewSource(10))
	all := cards(11)
	for range 300 {
		var l []api.Card
		for range r.Intn(api.MaxCards + 1) {
			l = append(l, all[r.Intn(len(all))])
		}
		s, e := card.Print(l)
		if e != api.OK || len(s)%80 != 0 {
			t.Error(len(s), e)
		}
		parses(t, s, l...)
	}
	for _, c := range all {
		s, e := card.Print([]api.Card{c})
		if e != api.OK || len(s)%80 != 0 {
			t.Error(c, len(s), e)
		}
		parses(t, s, c)
	}
}

// P8.5: Print of Parse is made of lines with the same list, and Print of that is
// the same again.
func TestParseAndPrint(t *testing.T) {
	for _, s := range []string{
		"", file("A       = T"), file("N       = +125.0E-2/x"), file("N       = 007 /  y  "), file("T       = 'a'"), file("T       =    'a&'/", "CONTINUE     'b' /"),
		file("T       = '" + many("x", 68) + "'"), file("T       = '"+many("x", 40)+"&'", "CONTINUE  '"+many("y", 40)+"'"), file("", "COMMENT", "E       = /", "HISTORY  x"),
		file("T       = '   &'", "CONTINUE  '   '"), file("R       = .00000000000000001E47"),
	} {
		l, e := card.Parse(s)
		if e != api.OK {
			t.Errorf("%q: %v", s, e)
			continue
		}
		first, e := card.Print(l)
		if e != api.OK || len(first)%80 != 0 {
			t.Errorf("%q: %q %v", s, first, e)
		}
		parses(t, first, l...)
		again, _ := card.Parse(first)
		if second, e := card.Print(again); e != api.OK || second != first {
			t.Errorf("%q: %q %v instead of %q", s, second, e, first)
		}
	}
}

// P8.5: after Put, Find finds the card, unless it is a CardNote.
func TestPutAndFind(t *testing.T) {
	r := rand.New(rand.NewSource(12))
	var l []api.Card
	for _, c := range cards(13) {
		if len(l) == api.MaxCards {
			l = l[r.Intn(api.MaxCards):]
		}
		put, e := card.Put(l, c)
		if e != api.OK {
			t.Error(c, e)
			continue
		}
		l = put
		if i, e := card.Find(l, c.Key); c.Kind != api.CardNote && (e != api.OK || l[i] != c) {
			t.Error(c, i, e)
		}
	}
}

// The example of the chapter about the forms of a number.
func TestSameNumber(t *testing.T) {
	for _, s := range []string{"1.25", "+125.0E-2", ".125E1", "             125.E-2"} {
		parses(t, line("REAL    = "+s), api.Card{Key: "REAL", Kind: api.CardReal, N: 125, E: -2})
	}
	fails(t, line("KEY     = 1 2"))
	fails(t, line("KEY     = 'a"))
}
