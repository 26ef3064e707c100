package card_test

import (
	"math/rand"
	"slices"
	"testing"

	"planisphere/api"
	"planisphere/card"
)

// P8.2: values of every kind, and their notes.
func TestValues(t *testing.T) {
	empty, yes, no := api.Card{Kind: api.CardEmpty}, api.Card{Kind: api.CardFlag, Yes: true}, api.Card{Kind: api.CardFlag}
	for s, c := range map[string]api.Card{
		"": empty, "     ": empty, "T": yes, "    T   ": yes, "F": no, "  F": no,
		"''": {Kind: api.CardText}, "'   '": {Kind: api.CardText}, "''''": {Kind: api.CardText, Text: "'"}, "' '' '": {Kind: api.CardText, Text: " '"},
		" 'o''k'": {Kind: api.CardText, Text: "o'k"}, "'x'": {Kind: api.CardText, Text: "x"}, "' x  '": {Kind: api.CardText, Text: " x"},
		"'x / y'": {Kind: api.CardText, Text: "x / y"}, "'&'": {Kind: api.CardText, Text: "&"}, "'x&  '": {Kind: api.CardText, Text: "x&"},
		"'" + many("x", 68) + "'": {Kind: api.CardText, Text: many("x", 68)},
		"12":                      {Kind: api.CardWhole, N: 12}, "1.5": {Kind: api.CardReal, N: 15, E: -1},
	} {
		c.Key = "KEY"
		parses(t, line("KEY     = "+s), c)
		if len(s) > 60 {
			continue
		}
		for _, behind := range []string{"/", " /", "   /   ", "//", "/ / ", "/x", " / a b ", "/'", " / 'x' & "} {
			c.Note = map[string]string{"//": "/", "/ / ": "/", "/x": "x", " / a b ": "a b", "/'": "'", " / 'x' & ": "'x' &"}[behind]
			parses(t, line("KEY     = "+s+behind), c)
		}
	}
}

// P8.2: numbers in all their forms.
func TestWholes(t *testing.T) {
	for s, n := range map[string]int64{
		"0": 0, "-0": 0, "+0": 0, "7": 7, "+7": 7, "-7": -7, "007": 7, "10": 10, "00000000000000000012": 12, "-00000000000000000012": -12,
		"9223372036854775807": 1<<63 - 1, "+09223372036854775807": 1<<63 - 1, "-9223372036854775808": -1 << 63, "-09223372036854775808": -1 << 63,
		"1000000000000000000": 1e18, "00000000000000000000": 0,
	} {
		parses(t, line("N       = "+s), api.Card{Key: "N", Kind: api.CardWhole, N: n})
	}
	for _, s := range []string{
		"9223372036854775808", "-9223372036854775809", "99999999999999999999", "000000000000000000012", "000000000000000000000", "-000000000000000000001",
		"+", "-", "--1", "+-1", "-+1", "1-", "1+1", "1,2", "1_000", "0x10", "1a", "a", "1 2", "TT", "TF", "T F", "t", "U", "1T", "T1", "#", "=", "= 1",
	} {
		fails(t, line("N       = "+s))
	}
}

// P8.2: numbers with a point or an exponent.
func TestReals(t *testing.T) {
	type real struct {
		n int64
		e int
	}
	for s, x := range map[string]real{
		"125.E-2": {125, -2}, "1.25": {125, -2}, "+125.0E-2": {125, -2}, ".125E1": {125, -2}, "-1.50E+3": {-15, 2}, "5.": {5, 0}, ".5": {5, -1},
		"-.5": {-5, -1}, "+.5": {5, -1}, "5E3": {5, 3}, "50E3": {5, 4}, "5E03": {5, 3}, "5E+0": {5, 0}, "5E-0": {5, 0}, "5.E0": {5, 0}, "100.": {1, 2}, "-100.": {-1, 2},
		"0.": {}, ".0": {}, "-0.": {}, "0E0": {}, "0E99": {}, "0.000E-99": {}, "00000000000000000.0": {}, "1E30": {1, 30}, "1E-30": {1, -30}, "10E29": {1, 30},
		"1000E-33": {1, -30}, "0.1E31": {1, 30}, ".01E32": {1, 30}, ".00000000000000001E47": {1, 30}, "100000000000000000E-47": {1, -30},
		"999999999999999999E30": {1e18 - 1, 30}, "-999999999999999999.E-30": {1 - 1e18, -30}, ".999999999999999999E-12": {1e18 - 1, -30},
		"000000000000000001.": {1, 0}, "1.00000000000000000": {1, 0}, "123456789.123456789": {123456789123456789, -9},
	} {
		parses(t, line("R       = "+s), api.Card{Key: "R", Kind: api.CardReal, N: x.n, E: x.e})
	}
	for _, s := range []string{
		".", "-.", "+.", "E", "E1", ".E1", "-E1", "1E", "1E+", "1E-", "1.2E", "1E100", "1E001", "1E+100", "0E100", "1E1.", "1E.1", "1E1.0", "1.2.3", "1..2", "1E1E1",
		".+5", ".-5", "1.+5", "1.-5", "-.+5", "1E+-1", "1E--1", "1e1", "1D1", "1.2e3", "1E 1", "1 E1", "1. 5", "- 1.", "1.T", "1.5'",
		"1E31", "1E-31", "10E30", "0.1E-30", "1.1E-30", "100E-33", ".1E32", "1E99", "1E-99", "1000000000000000000.", "0000000000000000001.", "0.000000000000000000",
		".0000000000000000000", "1.000000000000000000", "0000000000000000000E0", "9999999999999999999E1", "999999999999999999.0", "_1.", "1_0.", "1._0", "1E_1", "1E1_",
	} {
		fails(t, line("R       = "+s))
	}
}

// P8.2: the keywords of lines.
func TestKeywords(t *testing.T) {
	flag := func(key string) api.Card { return api.Card{Key: key, Kind: api.CardFlag, Yes: true} }
	parses(t, line("A       = T"), flag("A"))
	parses(t, line("ABCDEFGH= T"), flag("ABCDEFGH"))
	parses(t, line("A-B_9   = T"), flag("A-B_9"))
	parses(t, line("ENDS    = T"), flag("ENDS"))
	parses(t, line("COMMENTS= T"), flag("COMMENTS"))
	parses(t, line("CONTINU = T"), flag("CONTINU"))
	for _, s := range []string{
		"END", "END     = T", "CONTINUE= T", "CONTINUE= 'x'", "CONTINUE  'x'", "CONTINUE", "a       = T", " A      = T", "A B     = T", "A.B     = T",
		"A       =T", "A        T", "A       T", "A", "A      = T", "A        = T", "A       == T", "A       ==T", "ABCDEFGHI = T", "A       '= T", "A\t      = T", "COMMENT = x", "HISTORY = T",
		"        = T", "COMMENTX", "HISTORYX x", "/       = T", "'       = T",
	} {
		fails(t, line(s))
	}
}

// P8.2: lines that are only text.
func TestReadRemarks(t *testing.T) {
	for _, key := range []string{"", "COMMENT", "HISTORY"} {
		for _, text := range []string{"", "=", "=x", " = x", " x", "/", "'", "a  b", many("x", 72), "CONTINUE", "'x&'"} {
			parses(t, line(line(key)[:8]+text), api.Card{Key: key, Kind: api.CardNote, Text: text})
		}
		fails(t, line(line(key)[:8]+"= x"))
		fails(t, line(line(key)[:8]+"=  x"))
	}
}

// P8.2: texts that do not end, and values that are followed by something else.
func TestMalformed(t *testing.T) {
	for _, s := range []string{
		"'", "'a", "'''", "'a''", "''a'", "''''' ''", "'a' 'b'", "'a'b", "'a'b/", "'a' b / c", "T x", "T=", "1 x / y", "T'", "1'", "x", "x / y", "\"a\"", "& / x", "'" + many("x", 69),
		"'" + many("''", 34) + "x",
	} {
		fails(t, line("KEY     = "+s))
	}
}

// P8.2: cards that can be read, but are not valid.
func TestNotValid(t *testing.T) {
	for _, s := range []string{"", "T", "1", "1.5", "'x'"} {
		parses(t, line("KEY     = "+s+"/"+many("n", 47)), api.Card{
			Key: "KEY", Note: many("n", 47), Yes: s == "T", Kind: map[string]uint8{"": 6, "T": 2, "1": 3, "1.5": 4, "'x'": 5}[s],
			N: map[string]int64{"1": 1, "1.5": 15}[s], E: map[string]int{"1.5": -1}[s], Text: map[string]string{"'x'": "x"}[s],
		})
		fails(t, line("KEY     = "+s+"/"+many("n", 48)))
	}
	parses(t, line("KEY     = '"+many("x", 64)+"'/n"), api.Card{Key: "KEY", Kind: api.CardText, Text: many("x", 64), Note: "n"})
	fails(t, line("KEY     = '"+many("x", 64)+"'/nn"))
	fails(t, line("KEY     = '"+many("''", 32)+"x'/n"))
}

// P8.2: texts that are continued.
func TestReadContinued(t *testing.T) {
	text := func(s string) api.Card { return api.Card{Key: "T", Kind: api.CardText, Text: s} }
	flag := api.Card{Key: "F", Kind: api.CardFlag}
	parses(t, file("T       = 'a&'", "CONTINUE  'b'"), text("ab"))
	parses(t, file("T       =     'a&'   /   ", "CONTINUE     'b'  / "), text("ab"))
	parses(t, file("T       = 'a&'", "CONTINUE  'b&'", "CONTINUE  '''c'"), text("ab'c"))
	parses(t, file("T       = 'a&'", "CONTINUE  ''"), text("a"))
	parses(t, file("T       = '&'", "CONTINUE  '&'", "CONTINUE  '&'"), text("&"))
	parses(t, file("T       = 'a&&'", "CONTINUE  'b&'"), text("a&b&"))
	parses(t, file("T       = 'a&'"), text("a&"))
	parses(t, file("T       = 'a&'", "F       = F"), text("a&"), flag)
	parses(t, file("T       = 'a&'", "CONTINUE  'b&'", "F       = F", "T       = 'c&'", "CONTINUE  'd'"), text("ab&"), flag, text("cd"))
	parses(t, file("T       = 'a&'", "COMMENT CONTINUE", "        '"), text("a&"), api.Card{Key: "COMMENT", Kind: api.CardNote, Text: "CONTINUE"}, api.Card{Kind: api.CardNote, Text: "'"})
	parses(t, file("T       = 'a&' / n", "F       = F"), api.Card{Key: "T", Kind: api.CardText, Text: "a&", Note: "n"}, flag)
	for _, s := range []string{
		file("T       = 'a'", "CONTINUE  'b'"), file("T       = 'a& '", "CONTINUE  'b'"), file("T       = 'a& '", "CONTINUE= 'b'"),
		file("T       = 'a&'", "CONTINUE= 'b'"), file("T       = 'a&'", "CONTINUE =  'b'"), file("T       = 'a&'", "CONTINUE 'b'"), file("T       = 'a&'", "CONTINUE"),
		file("T       = 'a&'", "CONTINUE  T"), file("T       = 'a&'", "CONTINUE  1"), file("T       = 'a&'", "CONTINUE  b"), file("T       = 'a&'", "CONTINUE  'b"),
		file("T       = 'a&'", "CONTINUE  'b'", "CONTINUE  'c'"), file("T       = 'a&'", "CONTINUE  'b& '", "CONTINUE  'c'"), file("T       = 'a&&'", "CONTINUE  ''", "CONTINUE  'c'"),
		file("T       = 'a&' / n", "CONTINUE  'b'"), file("T       = 'a&'", "CONTINUE  'b' / n"), file("T       = 'a&'", "CONTINUE  'b&' / n", "CONTINUE  'c'"),
		file("CONTINUE  'b'"), file("F       = F", "CONTINUE  'b'"), file("F       = F / &", "CONTINUE  'b'"), file("COMMENT 'a&'", "CONTINUE  'b'"), file("COMMENT &", "CONTINUE  'b'"),
		file("T       = 'a&'", "F       = F", "CONTINUE  'b'"), file("N       = 1 / '&'", "CONTINUE  'b'"),
	} {
		fails(t, s)
	}
}

// P8.2: spaces at the end of a text that is continued, and its length.
func TestContinuedEnds(t *testing.T) {
	text := func(s string) api.Card { return api.Card{Key: "T", Kind: api.CardText, Text: s} }
	parses(t, file("T       = 'a   &'", "CONTINUE  'b  '"), text("a   b"))
	parses(t, file("T       = 'a&'", "CONTINUE  '   '"), text("a"))
	parses(t, file("T       = 'a   &'", "CONTINUE  '   '"), text("a"))
	parses(t, file("T       = '   &'", "CONTINUE  '&'", "CONTINUE  ''"), text(""))
	lines := []string{"T       = '" + many("x", 60) + "&'"}
	for range 3 {
		lines = append(lines, "CONTINUE  '"+many("y", 60)+"&'")
	}
	whole := many("x", 60) + many("y", 180)
	parses(t, file(append(lines, "CONTINUE  '"+many("z", 60)+"'")...), text(whole+many("z", 60)))
	parses(t, file(append(lines, "CONTINUE  '"+many("z", 60)+"   '")...), text(whole+many("z", 60)))
	fails(t, file(append(lines, "CONTINUE  '"+many("z", 61)+"'")...))
	fails(t, file(append(lines, "CONTINUE  '"+many("z", 60)+"&'")...))
	long := slices.Repeat([]string{"CONTINUE  '&'"}, 100000)
	parses(t, file("T       = 'x&'")+many(line("CONTINUE  '&'"), len(long))+line("CONTINUE  'y'"), text("xy"))
	fails(t, file("T       = 'x&'")+many(line("CONTINUE  'x&'"), 100000))
}

// P8.2: strings that are not made of lines.
func TestLengths(t *testing.T) {
	parses(t, "")
	for count := 1; count < 400; count++ {
		if s := many(" ", count); count%80 != 0 {
			fails(t, s)
		} else {
			parses(t, s, slices.Repeat([]api.Card{{Kind: api.CardNote}}, count/80)...)
		}
	}
	fails(t, line("A       = T")+"\n")
	fails(t, line("A       = T")[:79])
	fails(t, "A = T")
}

// P8.2: the characters of lines.
func TestLineCharacters(t *testing.T) {
	for b := range 256 {
		for place := range 80 {
			s := []byte(line("T       = 'text' / note"))
			s[place] = byte(b)
			want, good := readAll(string(s))
			if good = good && 32 <= b && b <= 126; good {
				parses(t, string(s), want...)
			} else {
				fails(t, string(s))
			}
		}
	}
	fails(t, "COMMENT "+many("é", 36))
	fails(t, "COMMENT "+many("x", 71)+"é"+many(" ", 79))
	fails(t, many("é", 40))
	fails(t, "T       =\t'x'"+many(" ", 67))
	fails(t, line("T       = 'x'")[:79]+"\x00")
}

// P8.2: lines at random, against a reader that is made of a regular expression.
func TestRandomLines(t *testing.T) {
	r := rand.New(rand.NewSource(4))
	begins := []string{"T       = ", "CONTINUE  ", "        ", "COMMENT ", "N       = ", "CONTINUE= "}
	alphabets := []string{"'& /x", "' &", "0123456789.", "01.E+-", "19 /", "TF /'", "0E3-"}
	count := 0
	for range 200000 {
		s := ""
		for range 1 + r.Intn(3) {
			content := ""
			alphabet := alphabets[r.Intn(len(alphabets))]
			for range r.Intn(9) {
				content += string(alphabet[r.Intn(len(alphabet))])
			}
			if r.Intn(2) == 0 {
				content = "'" + content + []string{"'", "&'", "& '", "&' / x", "&'  /"}[r.Intn(5)]
			}
			s += line(begins[r.Intn(len(begins))] + content)
		}
		want, good := readAll(s)
		if !good {
			fails(t, s)
			continue
		}
		parses(t, s, want...)
		count++
	}
	if count < 20000 {
		t.Error("only", count, "of the lines could be read")
	}
}

// P8.2: numbers at random.
func TestRandomNumbers(t *testing.T) {
	r := rand.New(rand.NewSource(5))
	digits := func(most int) string {
		s := ""
		for range r.Intn(most + 1) {
			s += string("0001999"[r.Intn(7)])
		}
		return s
	}
	for range 100000 {
		s := []string{"", "", "-", "+"}[r.Intn(4)] + digits(20)
		if r.Intn(2) == 0 {
			s += "." + digits(18)
		}
		if r.Intn(2) == 0 {
			s += "E" + []string{"", "-", "+"}[r.Intn(3)] + digits(3)
		}
		s = line("N       = " + s)
		if want, good := readAll(s); good {
			parses(t, s, want...)
		} else {
			fails(t, s)
		}
	}
}

// P8.2: ErrMany for more than 200 cards, after ErrForm.
func TestParseMany(t *testing.T) {
	lines := many(line("A       = T"), api.MaxCards)
	parses(t, lines, slices.Repeat([]api.Card{{Key: "A", Kind: api.CardFlag, Yes: true}}, api.MaxCards)...)
	for _, s := range []string{lines + line(""), lines + line("B       = 'x'"), lines + lines, lines + file("T       = 'a&'", "CONTINUE  'b'")} {
		if l, e := card.Parse(s); e != api.ErrMany || l != nil {
			t.Error(l, e)
		}
	}
	for _, s := range []string{lines + line("END"), lines + lines + line("a       = T"), lines + line("A       = T") + " ", line("x") + lines + lines} {
		fails(t, s)
	}
	long := api.Card{Key: "T", Kind: api.CardText, Text: many("'", 300)}
	parses(t, many(printed(long), api.MaxCards), slices.Repeat([]api.Card{long}, api.MaxCards)...)
	if l, e := card.Parse(many(printed(long), api.MaxCards+1)); e != api.ErrMany || l != nil {
		t.Error(l, e)
	}
}
