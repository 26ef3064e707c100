package card_test

import (
	"math"
	"strings"
	"testing"

	"planisphere/api"
	"planisphere/card"
)

// one is a valid card of a kind.
func one(kind uint8) api.Card {
	c := api.Card{Key: "KEY", Kind: kind}
	if kind == api.CardNote {
		c.Key = ""
	}
	return c
}

// checks checks the error of a card.
func checks(t *testing.T, c api.Card, valid bool) {
	t.Helper()
	want := api.ErrBad
	if valid {
		want = api.OK
	}
	if e := card.Check(c); e != want {
		t.Errorf("%+v: %v instead of %v", c, e, want)
	}
}

// P8.1: valid cards of all kinds.
func TestValid(t *testing.T) {
	for _, c := range cards(1) {
		checks(t, c, true)
	}
}

// P8.1: the six kinds, and no other.
func TestKinds(t *testing.T) {
	for kind := range 256 {
		checks(t, one(uint8(kind)), 1 <= kind && kind <= 6)
		checks(t, api.Card{Kind: uint8(kind)}, kind == 1)
	}
}

// P8.1: fields that are not mentioned for a kind are zero.
func TestOtherFields(t *testing.T) {
	for kind := api.CardNote; kind <= api.CardEmpty; kind++ {
		c := one(kind)
		c.Yes = true
		checks(t, c, kind == api.CardFlag)
		c = one(kind)
		c.N = 1
		checks(t, c, kind == api.CardWhole || kind == api.CardReal)
		c.E = 1
		checks(t, c, kind == api.CardReal)
		c = one(kind)
		c.E = -1
		checks(t, c, false)
		c = one(kind)
		c.Text = "x"
		checks(t, c, kind == api.CardNote || kind == api.CardText)
		c = one(kind)
		c.Note = "x"
		checks(t, c, kind != api.CardNote)
	}
}

// P8.1: the keywords of each kind.
func TestKeys(t *testing.T) {
	for _, key := range []string{"", "COMMENT", "HISTORY"} {
		for kind := api.CardNote; kind <= api.CardEmpty; kind++ {
			checks(t, api.Card{Key: key, Kind: kind}, kind == api.CardNote)
		}
	}
	good := []string{"A", "Z", "0", "9", "-", "_", "ABCDEFGH", "ENDS", "EN", "CONTINU", "COMMENTS", "COMMEN", "HISTORY1", "12345678", "--------"}
	wrong := []string{
		"END", "CONTINUE", "ABCDEFGHI", "COMMENT ", "END ", " A", "A ", "A B", "a", "KEy", "A.B", "A=", "É", "A\x00", "\xff", "COMMENTS1",
		many("A", 80), many("A", 1<<20),
	}
	for kind := api.CardNote; kind <= api.CardEmpty; kind++ {
		for _, key := range good {
			checks(t, api.Card{Key: key, Kind: kind}, kind != api.CardNote)
		}
		for _, key := range wrong {
			checks(t, api.Card{Key: key, Kind: kind}, false)
		}
	}
}

// P8.1: the characters of keywords, texts and notes.
func TestCharacters(t *testing.T) {
	for b := range 256 {
		s := string([]byte{byte(b)})
		plain := 32 <= b && b <= 126
		checks(t, api.Card{Key: "K" + s, Kind: api.CardFlag}, strings.Contains("ABCDEFGHIJKLMNOPQRSTUVWXYZ0123456789-_", s))
		for kind := api.CardFlag; kind <= api.CardEmpty; kind++ {
			c := one(kind)
			c.Note = "a" + s + "b"
			checks(t, c, plain)
		}
		checks(t, api.Card{Kind: api.CardNote, Text: "a" + s + "b"}, plain)
		checks(t, api.Card{Key: "A", Kind: api.CardText, Text: "a" + s + "b"}, plain)
	}
	for _, s := range []string{"é", "ÿ", "a\u00a0b", "日本"} {
		checks(t, api.Card{Kind: api.CardNote, Text: s}, false)
		checks(t, api.Card{Key: "A", Kind: api.CardText, Text: s}, false)
		checks(t, api.Card{Key: "A", Kind: api.CardFlag, Note: s}, false)
	}
}

// P8.1: the texts of notes.
func TestRemarks(t *testing.T) {
	for _, key := range []string{"", "COMMENT", "HISTORY"} {
		for _, text := range []string{"", "=", "=x", " = x", "x ==", many("x", 72), "= " + "x", "= ", "x ", " ", many("x", 73), many("x", 71) + " ", "=  x"} {
			valid := len(text) <= 72 && !strings.HasSuffix(text, " ") && !strings.HasPrefix(text, "= ")
			checks(t, api.Card{Key: key, Kind: api.CardNote, Text: text}, valid)
		}
		checks(t, api.Card{Key: key, Kind: api.CardNote, Text: many("x", 1<<20)}, false)
	}
}

// P8.1: what stands behind a value neither begins nor ends with a space.
func TestNotes(t *testing.T) {
	for kind := api.CardFlag; kind <= api.CardEmpty; kind++ {
		for note, valid := range map[string]bool{"x": true, "a b": true, "/": true, "'": true, "&": true, " x": false, "x ": false, " ": false, "  ": false} {
			c := one(kind)
			c.Note = note
			checks(t, c, valid)
		}
	}
}

// P8.1: cards whose field and note fit in a line, and longer ones.
func TestFit(t *testing.T) {
	for kind := api.CardFlag; kind <= api.CardEmpty; kind++ {
		c := one(kind)
		for _, count := range []int{0, 1, 46, 47, 48, 49, 70, 71, 1 << 20} {
			c.Note = many("n", count)
			checks(t, c, count <= 47)
		}
	}
	for count := range api.MaxText + 2 {
		for _, note := range []string{"", "n", "note"} {
			for _, part := range []string{"x", "'", "&"} {
				c := api.Card{Key: "T", Kind: api.CardText, Text: many(part, count), Note: note}
				fits := note == "" || max(20, len(doubled(c.Text))+2)+3+len(note) <= 70
				checks(t, c, count <= api.MaxText && fits)
			}
		}
	}
	real := api.Card{Key: "R", Kind: api.CardReal, N: 1 - 1e18, E: -30}
	for count := range 50 {
		real.Note = many("n", count)
		checks(t, real, count <= 43)
	}
	checks(t, api.Card{Key: "T", Kind: api.CardText, Text: many("x", 1<<20)}, false)
}

// P8.1: texts do not end with a space.
func TestTexts(t *testing.T) {
	for text, valid := range map[string]bool{"": true, " x": true, "  x y": true, "= x": true, " ": false, "x ": false, "'": true, "' ": false} {
		checks(t, api.Card{Key: "T", Kind: api.CardText, Text: text}, valid)
	}
	checks(t, api.Card{Key: "T", Kind: api.CardText, Text: many("x", 299) + " "}, false)
	checks(t, api.Card{Key: "T", Kind: api.CardText, Text: many(" ", 299) + "x"}, true)
	checks(t, api.Card{Key: "T", Kind: api.CardText, Text: many(" ", 300) + "x"}, false)
}

// P8.1: the numbers of a CardWhole and a CardReal.
func TestNumbers(t *testing.T) {
	for _, n := range []int64{0, 1, -1, 10, -10, 1e18 - 1, 1e18, 1e18 + 1, 1 - 1e18, -1e18, -1e18 - 1, math.MaxInt64, math.MinInt64} {
		checks(t, api.Card{Key: "N", Kind: api.CardWhole, N: n}, true)
	}
	for _, n := range []int64{1, -1, 9, 11, -11, 101, 1e18 - 1, 1 - 1e18, 5e17 + 1} {
		for _, e := range []int{0, 1, -1, 29, 30, -30, 31, -31, math.MaxInt, math.MinInt} {
			checks(t, api.Card{Key: "N", Kind: api.CardReal, N: n, E: e}, -30 <= e && e <= 30)
		}
	}
	for _, n := range []int64{10, -10, 100, 1e17, 1e18, -1e18, 1e18 - 10, 10 - 1e18, 1e18 + 1, -1e18 - 1, math.MaxInt64, math.MinInt64} {
		for _, e := range []int{0, 1, -30} {
			checks(t, api.Card{Key: "N", Kind: api.CardReal, N: n, E: e}, false)
		}
	}
	for e := -32; e <= 32; e++ {
		checks(t, api.Card{Key: "N", Kind: api.CardReal, E: e}, e == 0)
	}
}
