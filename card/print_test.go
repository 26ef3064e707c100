package card_test

import (
	"slices"
	"testing"

	"planisphere/api"
	"planisphere/card"
)

// prints checks the lines of a card.
func prints(t *testing.T, c api.Card, want ...string) {
	t.Helper()
	if s, e := card.Print([]api.Card{c}); e != api.OK || s != file(want...) {
		t.Errorf("%+v: %q %v instead of %q", c, s, e, file(want...))
	}
}

// P8.1: the lines of cards of every kind.
func TestLines(t *testing.T) {
	for _, c := range cards(2) {
		if s, e := card.Print([]api.Card{c}); e != api.OK || s != printed(c) {
			t.Errorf("%+v: %q %v instead of %q", c, s, e, printed(c))
		}
	}
}

// P8.1: the examples of the chapter, and lines that are written out.
func TestExamples(t *testing.T) {
	prints(t, api.Card{Key: "NAXIS", Kind: api.CardWhole, N: 2, Note: "axes"}, "NAXIS   =                    2 / axes")
	prints(t, api.Card{Key: "REAL", Kind: api.CardReal, N: 125, E: -2}, "REAL    =              125.E-2")
	prints(t, api.Card{Key: "NAME", Kind: api.CardText, Text: "o'k"}, "NAME    = 'o''k    '")
	prints(t, api.Card{Key: "NAME", Kind: api.CardText, Text: "o'k", Note: "n"}, "NAME    = 'o''k    '           / n")
	prints(t, api.Card{Key: "NAME", Kind: api.CardText}, "NAME    = '        '")
	prints(t, api.Card{Key: "LONGNAME", Kind: api.CardText, Text: "123456789", Note: "x"}, "LONGNAME= '123456789'          / x")
	prints(t, api.Card{Key: "YES", Kind: api.CardFlag, Yes: true}, "YES     =                    T")
	prints(t, api.Card{Key: "NO", Kind: api.CardFlag}, "NO      =                    F")
	prints(t, api.Card{Key: "NONE", Kind: api.CardEmpty}, "NONE    =")
	prints(t, api.Card{Key: "NONE", Kind: api.CardEmpty, Note: "x"}, "NONE    =                      / x")
	prints(t, api.Card{Key: "ZERO", Kind: api.CardReal}, "ZERO    =                 0.E0")
	prints(t, api.Card{Key: "LEAST", Kind: api.CardWhole, N: -1 << 63}, "LEAST   = -9223372036854775808")
	prints(t, api.Card{Key: "LONG", Kind: api.CardReal, N: 1 - 1e18, E: -30, Note: "x"}, "LONG    = -999999999999999999.E-30 / x")
	prints(t, api.Card{Key: "COMMENT", Kind: api.CardNote, Text: "x"}, "COMMENT x")
	prints(t, api.Card{Kind: api.CardNote, Text: "x"}, "        x")
	prints(t, api.Card{Kind: api.CardNote}, "")
}

// P8.1: texts that are continued.
func TestContinued(t *testing.T) {
	text := func(s string) api.Card { return api.Card{Key: "T", Kind: api.CardText, Text: s} }
	x := many("x", 67)
	prints(t, text(x), "T       = '"+x+"'")
	prints(t, text(x+"y"), "T       = '"+x+"y'")
	prints(t, text(x+"yz"), "T       = '"+x+"&'", "CONTINUE  'yz'")
	prints(t, text(x+x), "T       = '"+x+"&'", "CONTINUE  '"+x+"'")
	prints(t, text(x+x+"y"), "T       = '"+x+"&'", "CONTINUE  '"+x+"&'", "CONTINUE  'y'")
	prints(t, text(many("x", 66)+"'"), "T       = '"+many("x", 66)+"'''")
	prints(t, text(many("x", 66)+"'y"), "T       = '"+many("x", 66)+"&'", "CONTINUE  '''y'")
	prints(t, text(many("x", 65)+"'yz"), "T       = '"+many("x", 65)+"''&'", "CONTINUE  'yz'")
	prints(t, text(many("&", 69)), "T       = '"+many("&", 68)+"'", "CONTINUE  '&&'")
	prints(t, text(many("x", 60)+many(" ", 20)+"y"), "T       = '"+many("x", 60)+many(" ", 7)+"&'", "CONTINUE  '"+many(" ", 13)+"y'")
	var lines []string
	for i := range 10 {
		lines = append(lines, "CONTINUE  '"+many("''", 33)+"&'")
		if i == 0 {
			lines[0] = "T       = '" + many("''", 33) + "&'"
		}
	}
	lines[9] = "CONTINUE  '" + many("''", 3) + "'"
	prints(t, text(many("'", 300)), lines...)
}

// P8.1: the lines of several cards follow one another.
func TestPrint(t *testing.T) {
	all := cards(3)
	for count := 0; count <= api.MaxCards; count += 20 {
		want := ""
		for _, c := range all[:count] {
			want += printed(c)
		}
		if s, e := card.Print(all[:count]); e != api.OK || s != want {
			t.Error(count, "cards", e)
		}
	}
	if s, e := card.Print(nil); e != api.OK || s != "" {
		t.Error(s, e)
	}
	longest := slices.Repeat([]api.Card{{Key: "T", Kind: api.CardText, Text: many("'", 300)}}, api.MaxCards)
	if s, e := card.Print(longest); e != api.OK || len(s) != 80*10*api.MaxCards {
		t.Error(len(s), e)
	}
}

// P8.1: ErrMany, and then ErrBad.
func TestPrintErrors(t *testing.T) {
	bad := api.Card{Key: "END", Kind: api.CardFlag}
	list := slices.Repeat([]api.Card{{Key: "A", Kind: api.CardFlag}}, api.MaxCards)
	for _, i := range []int{0, 1, 100, 199} {
		wrong := slices.Clone(list)
		wrong[i] = bad
		if s, e := card.Print(wrong); e != api.ErrBad || s != "" {
			t.Errorf("%d: %q %v", i, s, e)
		}
		if s, e := card.Print(append(wrong, bad)); e != api.ErrMany || s != "" {
			t.Errorf("%d: %q %v", i, s, e)
		}
	}
	if s, e := card.Print(append(list, list[0])); e != api.ErrMany || s != "" {
		t.Errorf("%q %v", s, e)
	}
	if s, e := card.Print([]api.Card{bad}); e != api.ErrBad || s != "" {
		t.Errorf("%q %v", s, e)
	}
}
