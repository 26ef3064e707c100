package card

import (
	"strconv"
	"strings"

	"planisphere/api"
)

// Kinds of lines, which their keywords tell apart.
const (
	remarkLine  = iota // of a CardNote
	valueLine          // the first one, or the only one, of another card
	furtherLine        // continues a text
)

const (
	maxWhole = 20 // digits of a CardWhole
	maxReal  = 18 // digits of a CardReal in front of E
	maxPower = 2  // digits behind E
)

// Parse returns the cards that are read from lines.
func Parse(s string) (l []api.Card, e api.Errno) {
	defer func() {
		if wrong := recover(); wrong != nil {
			l, e = nil, api.ErrForm
		}
	}()
	demand(len(s)%lineWidth == 0 && isPlain(s))
	r := &reader{left: s}
	for r.left != "" {
		l = append(l, r.card())
	}
	if len(l) > api.MaxCards {
		return nil, api.ErrMany
	}
	return l, api.OK
}

// demand leaves a line in which something is wrong.
func demand(right bool) {
	if !right {
		panic(api.ErrForm)
	}
}

// reader reads lines.
type reader struct {
	left string // the lines that come next
}

// line reads a line.
func (r *reader) line() string {
	line := r.left[:lineWidth]
	r.left = r.left[lineWidth:]
	return line
}

// card reads a card.
func (r *reader) card() api.Card {
	line := r.line()
	var c api.Card
	switch kind(line) {
	case remarkLine:
		c = api.Card{Kind: api.CardNote, Text: line[keyWidth:]}
	case valueLine:
		c = content(line, valueMark)
		c.Text = r.continued(c)
	case furtherLine:
		panic(api.ErrForm)
	}
	c.Key, c.Text = keyword(line), strings.TrimRight(c.Text, " ")
	demand(Check(c) == api.OK)
	// Parts of the lines would keep all of them in memory.
	c.Key, c.Text, c.Note = strings.Clone(c.Key), strings.Clone(c.Text), strings.Clone(c.Note)
	return c
}

// continued returns the text of a line, and of those that continue it.
func (r *reader) continued(c api.Card) string {
	var text strings.Builder
	for strings.HasSuffix(c.Text, goesOn) && r.left != "" && kind(r.left) == furtherLine {
		further := content(r.line(), furtherMark)
		demand(further.Kind == api.CardText && c.Note == "" && further.Note == "")
		text.WriteString(strings.TrimSuffix(c.Text, goesOn))
		c = further
	}
	text.WriteString(c.Text)
	return text.String()
}

// kind returns the kind of a line.
func kind(line string) int {
	key := keyword(line)
	switch {
	case isRemarkKey(key):
		return remarkLine
	case key == furtherKey:
		return furtherLine
	}
	return valueLine
}

// keyword returns the keyword of a line.
func keyword(line string) string { return strings.TrimRight(line[:keyWidth], " ") }

// content returns what stands in a line behind its keyword and a mark: a card
// without a keyword, whose text has all its spaces.
func content(line, mark string) api.Card {
	left, marked := strings.CutPrefix(line[keyWidth:], mark)
	demand(marked)
	c, left := value(strings.TrimLeft(left, " "))
	left = strings.TrimLeft(left, " ")
	if left != "" {
		note, marked := strings.CutPrefix(left, "/")
		demand(marked)
		c.Note = strings.Trim(note, " ")
	}
	return c
}

// value returns the value with which a text begins, and what stands behind it.
func value(s string) (c api.Card, left string) {
	if text, found := strings.CutPrefix(s, quote); found {
		return quoted(text)
	}
	end := len(s)
	if i := strings.IndexAny(s, " /"); i >= 0 {
		end = i
	}
	switch word := s[:end]; word {
	case "":
		c = api.Card{Kind: api.CardEmpty}
	case "T", "F":
		c = api.Card{Kind: api.CardFlag, Yes: word == "T"}
	default:
		c = number(word)
	}
	return c, s[end:]
}

// quoted returns the text of which the first apostrophe has been read, and what
// stands behind the last one.
func quoted(s string) (c api.Card, left string) {
	var text strings.Builder
	for again := true; again; {
		part, behind, found := strings.Cut(s, quote)
		demand(found)
		text.WriteString(part)
		if s, again = strings.CutPrefix(behind, quote); again {
			text.WriteString(quote)
		}
	}
	return api.Card{Kind: api.CardText, Text: text.String()}, s
}

// number returns the number of a word.
func number(word string) api.Card {
	front, power, scaled := strings.Cut(word, "E")
	before, behind, pointed := strings.Cut(front, ".")
	if !scaled && !pointed {
		return api.Card{Kind: api.CardWhole, N: whole(word, maxWhole)}
	}
	// Without digits before the point, a sign behind it would be read as one.
	demand(only(behind, isDigit))
	n, e := whole(before+behind, maxReal), -len(behind)
	if scaled {
		e += int(whole(power, maxPower))
	}
	if n == 0 {
		return api.Card{Kind: api.CardReal}
	}
	for n%10 == 0 {
		n, e = n/10, e+1
	}
	return api.Card{Kind: api.CardReal, N: n, E: e}
}

// whole returns a whole number of at most so many digits, with a sign or none.
func whole(word string, most int) int64 {
	n, err := strconv.ParseInt(word, 10, 64)
	demand(err == nil && len(strings.TrimLeft(word, "+-")) <= most)
	return n
}
