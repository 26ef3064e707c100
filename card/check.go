package card

import (
	"strings"

	"planisphere/api"
)

const (
	// maxRemark is the greatest length of the text of a CardNote.
	maxRemark = lineWidth - keyWidth
	// realEnd is the least number that is too great for a CardReal.
	realEnd = 1_000_000_000_000_000_000
)

// Check returns ErrBad if a card is not valid.
func Check(c api.Card) api.Errno {
	if c.Kind == api.CardNote && isRemark(c) || c.Kind != api.CardNote && isEntry(c) {
		return api.OK
	}
	return api.ErrBad
}

// isRemark reports whether a CardNote is valid.
func isRemark(c api.Card) bool {
	return isRemarkKey(c.Key) && c == api.Card{Key: c.Key, Kind: c.Kind, Text: c.Text} &&
		len(c.Text) <= maxRemark && isPlain(c.Text) && !strings.HasSuffix(c.Text, " ") &&
		// The line would look like that of a value.
		!strings.HasPrefix(c.Text, valueMark)
}

// isEntry reports whether a card of another kind is valid.
func isEntry(c api.Card) bool {
	return isKeyword(c.Key) && hasValue(c) && isPlain(c.Note) && c.Note == strings.Trim(c.Note, " ") &&
		(fits(c) || c.Kind == api.CardText && c.Note == "")
}

// hasValue reports whether a card has a valid value of its kind, and no other.
func hasValue(c api.Card) bool {
	own := api.Card{Key: c.Key, Kind: c.Kind, Note: c.Note}
	switch c.Kind {
	case api.CardFlag:
		own.Yes = c.Yes
	case api.CardWhole:
		own.N = c.N
	case api.CardReal:
		own.N, own.E = c.N, c.E
		return c == own && isReal(c.N, c.E)
	case api.CardText:
		own.Text = c.Text
		return c == own && len(c.Text) <= api.MaxText && isPlain(c.Text) && !strings.HasSuffix(c.Text, " ")
	case api.CardEmpty:
	default:
		return false
	}
	return c == own
}

// isReal reports whether two numbers are those of a CardReal.
func isReal(n int64, e int) bool {
	if n == 0 {
		return e == 0
	}
	return n%10 != 0 && -realEnd < n && n < realEnd && -api.MaxReal <= e && e <= api.MaxReal
}

// isRemarkKey reports whether a keyword is that of a CardNote.
func isRemarkKey(key string) bool { return key == "" || key == "COMMENT" || key == "HISTORY" }

// isKeyword reports whether a keyword is one that cards with values have.
func isKeyword(key string) bool {
	if isRemarkKey(key) || key == furtherKey || key == "END" || len(key) > keyWidth {
		return false
	}
	return only(key, func(r rune) bool { return 'A' <= r && r <= 'Z' || isDigit(r) || r == '-' || r == '_' })
}

// isPlain reports whether a text has no characters but those of lines.
func isPlain(text string) bool {
	return only(text, func(r rune) bool { return ' ' <= r && r <= '~' })
}

// isDigit reports whether a character is a digit.
func isDigit(r rune) bool { return '0' <= r && r <= '9' }

// only reports whether a text has no characters but those that are right.
func only(text string, right func(r rune) bool) bool {
	for _, r := range text {
		if !right(r) {
			return false
		}
	}
	return true
}
