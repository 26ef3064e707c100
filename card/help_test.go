package card_test

import (
	"fmt"
	"math/rand"
	"strings"
	"testing"

	"planisphere/api"
	"planisphere/card"
)

// line is a text with so many spaces behind it that it is a line.
func line(s string) string { return fmt.Sprintf("%-80s", s) }

// file is the lines of which these are the beginnings.
func file(begins ...string) string {
	s := ""
	for _, begin := range begins {
		s += line(begin)
	}
	return s
}

// many is a text of so many equal parts.
func many(part string, count int) string { return strings.Repeat(part, count) }

// doubled is a text in which each apostrophe is doubled.
func doubled(text string) string { return strings.Join(strings.Split(text, "'"), "''") }

// field is the field of a card.
func field(c api.Card) string {
	switch c.Kind {
	case api.CardFlag:
		return fmt.Sprintf("%20s", map[bool]string{true: "T", false: "F"}[c.Yes])
	case api.CardWhole:
		return fmt.Sprintf("%20d", c.N)
	case api.CardReal:
		return fmt.Sprintf("%20s", fmt.Sprintf("%d.E%d", c.N, c.E))
	case api.CardText:
		return fmt.Sprintf("%-20s", fmt.Sprintf("'%-8s'", doubled(c.Text)))
	}
	return many(" ", 20)
}

// pieces are the pieces of a text that is continued.
func pieces(text string) []string {
	var list []string
	for len(doubled(text)) > 67 {
		count := min(67, len(text))
		for len(doubled(text[:count])) > 67 {
			count--
		}
		list = append(list, text[:count])
		text = text[count:]
	}
	return append(list, text)
}

// printed is the lines of a valid card.
func printed(c api.Card) string {
	if c.Kind == api.CardNote {
		return file(fmt.Sprintf("%-8s%s", c.Key, c.Text))
	}
	content := field(c)
	if c.Note != "" {
		content += " / " + c.Note
	}
	if len(content) <= 70 {
		return file(fmt.Sprintf("%-8s= %s", c.Key, content))
	}
	var lines []string
	for i, piece := range pieces(c.Text) {
		lines = append(lines, fmt.Sprintf("CONTINUE  '%s&'", doubled(piece)))
		if i == 0 {
			lines[0] = fmt.Sprintf("%-8s= '%s&'", c.Key, doubled(piece))
		}
	}
	last := len(lines) - 1
	lines[last] = strings.TrimSuffix(lines[last], "&'") + "'"
	return file(lines...)
}

// parses checks what is read from lines.
func parses(t *testing.T, s string, want ...api.Card) {
	t.Helper()
	l, e := card.Parse(s)
	if e != api.OK || !same(l, want) {
		t.Errorf("%q: %+v %v instead of %+v", s, l, e, want)
	}
}

// fails checks that lines cannot be read.
func fails(t *testing.T, s string) {
	t.Helper()
	if l, e := card.Parse(s); e != api.ErrForm || l != nil {
		t.Errorf("%q: %+v %v instead of ErrForm", s, l, e)
	}
}

// same reports whether two lists have the same cards.
func same(a, b []api.Card) bool {
	if len(a) != len(b) {
		return false
	}
	for i := range a {
		if a[i] != b[i] {
			return false
		}
	}
	return true
}

// of is a text of so many characters from an alphabet, which neither begins
// nor ends with a space.
func of(r *rand.Rand, alphabet string, count int) string {
	text := ""
	for len(text) < count {
		text += string(alphabet[r.Intn(len(alphabet))])
		if len(text) == 1 || len(text) == count {
			text = strings.Trim(text, " ")
		}
	}
	return text
}

// marks are the characters with a meaning in lines, and a few others.
const marks = "'''&&/ =T1ax~"

// random is a valid card.
func random(r *rand.Rand) api.Card {
	c := api.Card{Key: of(r, "ABCXYZ0189-_", 1+r.Intn(8)), Kind: uint8(1 + r.Intn(6))}
	if c.Kind != api.CardNote && r.Intn(2) == 0 {
		c.Note = of(r, marks, r.Intn(48))
	}
	switch c.Kind {
	case api.CardNote:
		c.Key = []string{"COMMENT", "HISTORY", ""}[r.Intn(3)]
		c.Text = many(" ", r.Intn(3)*r.Intn(2)) + of(r, marks, r.Intn(71))
	case api.CardFlag:
		c.Yes = r.Intn(2) == 0
	case api.CardWhole:
		c.N = int64(r.Uint64()) >> r.Intn(64)
	case api.CardReal:
		c.N, c.E = (r.Int63n(2e18-1)-(1e18-1))>>r.Intn(62), r.Intn(61)-30
	case api.CardText:
		c.Text = of(r, marks, r.Intn(14))
		if c.Note == "" {
			c.Text = of(r, marks, r.Intn(301))
		}
	}
	if strings.TrimLeft(c.Text, " ") == "" || strings.HasPrefix(c.Text, "= ") {
		c.Text = ""
	}
	if card.Check(c) != api.OK {
		return random(r)
	}
	return c
}

// cards are valid cards.
func cards(seed int64) []api.Card {
	r := rand.New(rand.NewSource(seed))
	list := []api.Card{
		{Kind: api.CardNote}, {Key: "COMMENT", Kind: api.CardNote}, {Key: "HISTORY", Kind: api.CardNote, Text: many("x", 72)},
		{Kind: api.CardNote, Text: "="}, {Kind: api.CardNote, Text: " = 'x' / y"}, {Kind: api.CardNote, Text: "CONTINUE  'x'"},
		{Key: "A", Kind: api.CardEmpty}, {Key: "A", Kind: api.CardEmpty, Note: "/"}, {Key: "ENDS", Kind: api.CardEmpty, Note: many("n", 47)},
		{Key: "A", Kind: api.CardFlag}, {Key: "COMMENTS", Kind: api.CardFlag, Yes: true, Note: many("'", 47)},
		{Key: "NAXIS", Kind: api.CardWhole, N: 2, Note: "axes"}, {Key: "-", Kind: api.CardWhole},
		{Key: "_", Kind: api.CardWhole, N: -1 << 63, Note: many("/", 47)}, {Key: "0", Kind: api.CardWhole, N: 1<<63 - 1},
		{Key: "A-Z_0123", Kind: api.CardReal}, {Key: "R", Kind: api.CardReal, N: 125, E: -2}, {Key: "R", Kind: api.CardReal, N: 1, E: 30},
		{Key: "R", Kind: api.CardReal, N: 1 - 1e18, E: -30, Note: many("n", 43)}, {Key: "R", Kind: api.CardReal, N: 1e18 - 1, E: 30},
		{Key: "T", Kind: api.CardText}, {Key: "T", Kind: api.CardText, Text: "&"}, {Key: "T", Kind: api.CardText, Text: "'", Note: "'"},
		{Key: "T", Kind: api.CardText, Text: " x", Note: many("n", 47)}, {Key: "T", Kind: api.CardText, Text: many("x", 66), Note: many("n", 0)},
		{Key: "T", Kind: api.CardText, Text: many("x", 64), Note: "n"}, {Key: "T", Kind: api.CardText, Text: many("'", 32), Note: "n"},
	}
	for count := range api.MaxText + 1 {
		list = append(list, api.Card{Key: "T", Kind: api.CardText, Text: many("'", count)}, api.Card{Key: "TEXT", Kind: api.CardText, Text: many("&", count)})
	}
	for range 2000 {
		list = append(list, random(r))
	}
	return list
}
