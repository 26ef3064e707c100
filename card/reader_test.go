package card_test

import (
	"math/big"
	"regexp"
	"strings"

	"planisphere/api"
	"planisphere/card"
)

// valued is what stands behind the keyword and the two characters that follow.
var valued = regexp.MustCompile(`^ *(?:([TF])|('(?:[^']|'')*')|([+-]?\d{1,20})|([+-]?)(\d*)(\.?)(\d*)(?:(E)([+-]?\d\d?))?) *(?:/(.*))?$`)

// readReal is the number with a sign, digits before and behind a point, and a
// power of ten.
func readReal(sign, before, behind, power string) (api.Card, bool) {
	if count := len(before + behind); count < 1 || count > 18 {
		return api.Card{}, false
	}
	x, _ := new(big.Rat).SetString(sign + before + "." + behind + "0")
	scale, _ := new(big.Rat).SetString("1e" + power + "0"[:max(0, 1-len(power))])
	x.Mul(x, scale)
	// The least power of ten of a number that stands in a line is -117.
	x.Mul(x, new(big.Rat).SetInt(new(big.Int).Exp(big.NewInt(10), big.NewInt(117), nil)))
	n, e := x.Num(), -117
	if n.Sign() == 0 {
		return api.Card{Kind: api.CardReal}, true
	}
	for ten, rest := big.NewInt(10), new(big.Int); ; e++ {
		quotient, _ := new(big.Int).QuoRem(n, ten, rest)
		if rest.Sign() != 0 {
			return api.Card{Kind: api.CardReal, N: n.Int64(), E: e}, -30 <= e && e <= 30
		}
		n = quotient
	}
}

// readValue is what stands in a line behind its keyword and a mark; a text has
// all its spaces.
func readValue(s, mark string) (c api.Card, good bool) {
	m := valued.FindStringSubmatch(s[10:])
	if m == nil || s[8:10] != mark {
		return c, false
	}
	flag, text, whole, sign, before, point, behind, scaled, power, note := m[1], m[2], m[3], m[4], m[5], m[6], m[7], m[8], m[9], m[10]
	good = true
	switch {
	case flag != "":
		c = api.Card{Kind: api.CardFlag, Yes: flag == "T"}
	case text != "":
		c = api.Card{Kind: api.CardText, Text: strings.Join(strings.Split(text[1:len(text)-1], "''"), "'")}
	case whole != "":
		n, _ := new(big.Int).SetString(whole, 10)
		c, good = api.Card{Kind: api.CardWhole, N: n.Int64()}, n.IsInt64()
	case sign+before+behind+point+scaled != "":
		c, good = readReal(sign, before, behind, power)
		good = good && point+scaled != ""
	default:
		c = api.Card{Kind: api.CardEmpty}
	}
	c.Note = strings.Trim(note, " ")
	return c, good
}

// readAll is what is read from lines, whether good or not.
func readAll(s string) (list []api.Card, good bool) {
	if len(s)%80 != 0 {
		return nil, false
	}
	open := false
	for ; s != ""; s = s[80:] {
		key := strings.TrimRight(s[:8], " ")
		mark := "= "
		if open && key == "CONTINUE" {
			mark = "  "
		}
		c, good := readValue(s[:80], mark)
		switch {
		case key == "" || key == "COMMENT" || key == "HISTORY":
			c, good = api.Card{Key: key, Kind: api.CardNote, Text: s[8:80]}, true
		case !good || key == "CONTINUE" && !open:
			return nil, false
		}
		open = c.Kind == api.CardText && strings.HasSuffix(c.Text, "&")
		c.Key = key
		if key != "CONTINUE" {
			list = append(list, c)
			continue
		}
		first := &list[len(list)-1]
		if c.Kind != api.CardText || c.Note+first.Note != "" {
			return nil, false
		}
		first.Text = strings.TrimSuffix(first.Text, "&") + c.Text
	}
	for i := range list {
		list[i].Text = strings.TrimRight(list[i].Text, " ")
		if card.Check(list[i]) != api.OK {
			return nil, false
		}
	}
	return list, true
}
