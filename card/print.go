package card

import (
	"strconv"
	"strings"

	"planisphere/api"
)

const (
	lineWidth    = 80
	keyWidth     = 8
	contentWidth = 70 // of a field and a note together, at most
	fieldWidth   = 20 // at least
	quoteWidth   = 8  // of a text between its apostrophes, at least
	pieceWidth   = 67 // of a piece of a text that is continued, at most
)

const (
	furtherKey  = "CONTINUE" // the keyword of lines that continue a text
	valueMark   = "= "       // stands behind other keywords
	furtherMark = "  "       // stands behind furtherKey
	noteMark    = " / "
	quote       = "'"
	goesOn      = "&" // the end of a text that the next line continues
)

// Print returns the lines of cards, one after another.
func Print(l []api.Card) (string, api.Errno) {
	if len(l) > api.MaxCards {
		return "", api.ErrMany
	}
	for _, c := range l {
		if e := Check(c); e != api.OK {
			return "", e
		}
	}
	var all strings.Builder
	for _, c := range l {
		all.WriteString(lines(c))
	}
	return all.String(), api.OK
}

// lines returns the lines of a card.
func lines(c api.Card) string {
	key := filled(c.Key, keyWidth)
	switch {
	case c.Kind == api.CardNote:
		return line(key, c.Text)
	case !fits(c):
		return continued(key, c.Text)
	case c.Note == "":
		return line(key, valueMark, field(c))
	}
	return line(key, valueMark, field(c), noteMark, c.Note)
}

// continued returns the lines of a text that does not fit.
func continued(key, text string) string {
	var all strings.Builder
	mark := valueMark
	for count := first(text); count < len(text); count = first(text) {
		all.WriteString(line(key, mark, quote, doubled(text[:count]), goesOn, quote))
		key, mark, text = furtherKey, furtherMark, text[count:]
	}
	all.WriteString(line(key, mark, quote, doubled(text), quote))
	return all.String()
}

// first returns how many characters the first piece of a text has.
func first(text string) int {
	width := 0
	for i, r := range text {
		width += len(doubled(string(r)))
		if width > pieceWidth {
			return i
		}
	}
	return len(text)
}

// line returns the line that has these parts.
func line(parts ...string) string { return filled(strings.Join(parts, ""), lineWidth) }

// fits reports whether the field and the note of a card fit in one line.
func fits(c api.Card) bool {
	width := len(field(c))
	if c.Note != "" {
		width += len(noteMark) + len(c.Note)
	}
	return width <= contentWidth
}

// field returns the field of a card.
func field(c api.Card) string {
	word := ""
	switch c.Kind {
	case api.CardText:
		return filled(quote+filled(doubled(c.Text), quoteWidth)+quote, fieldWidth)
	case api.CardFlag:
		word = "F"
		if c.Yes {
			word = "T"
		}
	case api.CardWhole:
		word = strconv.FormatInt(c.N, 10)
	case api.CardReal:
		word = strconv.FormatInt(c.N, 10) + ".E" + strconv.Itoa(c.E)
	}
	return spaces(fieldWidth-len(word)) + word
}

// doubled returns a text in which each apostrophe is doubled.
func doubled(text string) string { return strings.ReplaceAll(text, quote, quote+quote) }

// filled returns a text with as many spaces behind it as its width asks for.
func filled(text string, width int) string { return text + spaces(width-len(text)) }

// spaces returns so many spaces, or none.
func spaces(count int) string { return strings.Repeat(" ", max(count, 0)) }
