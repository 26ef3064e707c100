package frame_test

import (
	"fmt"
	"slices"
	"strings"
	"testing"

	"planisphere/api"
	"planisphere/card"
)

// small is a frame of two by two numbers, with two cards.
func small() api.Frame {
	f := of(16, 2, 2)
	f.Raw = []int64{1, -1, 32767, -32768}
	f.Cards = []api.Card{{Key: "OBJECT", Kind: api.CardText, Text: "x"}, {Key: "N", Kind: api.CardWhole, N: 7, Note: "n"}}
	return f
}

// changed is the lines of a header of which one is another one.
func changed(lines []string, at int, s string) []string {
	lines = slices.Clone(lines)
	lines[at] = line(s)
	return lines
}

// P9.3: frames are read as they were written.
func TestParse(t *testing.T) {
	for _, f := range frames(6) {
		s := written([]api.Frame{f})
		parses(t, s, f)
		parses(t, s+sealed(header(f, false), data(f)), f, f)
	}
}

// P9.3: DATASUM and CHECKSUM may be missing, and stand anywhere.
func TestSumsAnywhere(t *testing.T) {
	f := small()
	lines, data := header(f, true), data(f)
	begin, cards := lines[:5], []string{lines[5][:80], lines[5][80:]}
	parses(t, plain(lines, data), f)
	parses(t, plain(append(lines, dataSum(data)), data), f)
	parses(t, coded(plain(append(lines, noSum), data)), f)
	for _, rest := range [][]string{
		{dataSum(data), noSum, cards[0], cards[1]}, {noSum, dataSum(data), cards[0], cards[1]}, {cards[0], noSum, cards[1], dataSum(data)},
		{noSum, cards[0], cards[1]}, {cards[0], dataSum(data), cards[1]},
	} {
		parses(t, coded(plain(slices.Concat(begin, rest), data)), f)
	}
	// Notes and other texts with the right sum are as good.
	parses(t, coded(plain(append(lines, line("DATASUM =   '"+fmt.Sprint(total(data))+"   ' / of data"), noSum), data)), f)
	noted := plain(append(lines, line("CHECKSUM= '0000000000000000' / of all")), data)
	parses(t, strings.Replace(noted, "0000000000000000", code(1<<32-1-total(noted)), 1), f)
}

// P9.3: a CHECKSUM is right if the unit has the sum, whatever its text is.
func TestOtherCode(t *testing.T) {
	f := api.Frame{Bits: 8, Shape: []int{4}, Raw: []int64{0, 0, 0, 0}}
	for _, text := range []string{"", "x", "0000000000000000", many("z", 100)} {
		cards, _ := card.Print([]api.Card{{Key: "CHECKSUM", Kind: api.CardText, Text: text}})
		lines := append(first(f, true), cards)
		rest := 1<<32 - 1 - total(plain(lines, data(f)))
		for i := range f.Raw {
			f.Raw[i] = int64(rest >> (24 - 8*i) & 255)
		}
		parses(t, plain(lines, data(f)), f)
		f.Raw[3] ^= 1
		fails(t, plain(lines, data(f)), api.ErrSum)
		f.Raw = make([]int64, 4)
	}
}

// P9.3: cards at the begin of a header may have notes, and other forms of their
// values.
func TestNotes(t *testing.T) {
	f := small()
	for _, start := range []bool{true, false} {
		lines, data := header(f, start), data(f)
		before := ""
		list := []api.Frame{f}
		if !start {
			before, list = written(list), append(list, f)
		}
		for at := range len(lines) - 1 {
			note := strings.TrimRight(lines[at], " ") + " / " + many("n", 40)
			parses(t, before+sealed(changed(lines, at, note), data), list...)
			spaced := lines[at][:9] + strings.TrimLeft(lines[at][9:], " ")
			parses(t, before+sealed(changed(lines, at, spaced[:9]+" "+spaced[9:]), data), list...)
		}
	}
	lines := header(f, true)
	parses(t, sealed(changed(lines, 1, "BITPIX  = +016"), data(f)), f)
	lines = changed(header(f, false), 0, "XTENSION= 'IMA&'")
	lines[0] += line("CONTINUE  'GE' / it goes on")
	fails(t, written([]api.Frame{f})+sealed(lines, data(f)), api.ErrForm)
	lines[0] = lines[0][:80] + line("CONTINUE  'GE'")
	parses(t, written([]api.Frame{f})+sealed(lines, data(f)), f, f)
}

// P9.3: ErrForm if the first cards are others, or have other values or kinds.
func TestFirstCards(t *testing.T) {
	f := small()
	wrong := map[string][]string{
		"SIMPLE":   {"SIMPLE  = F", "SIMPLE  = 1", "SIMPLE  = 'T'", "SIMPLE  =", "XTENSION= 'IMAGE   '", "SIMPL   = T", "COMMENT SIMPLE", "", "SIMPLE"},
		"XTENSION": {"XTENSION= 'IMAG'", "XTENSION= 'IMAGES'", "XTENSION= ' IMAGE'", "XTENSION= 'image'", "XTENSION= 'TABLE'", "XTENSION= T", "XTENSION=", "SIMPLE  = T", "XTENSION= ''", ""},
		"BITPIX":   {"BITPIX  = 0", "BITPIX  = -16", "BITPIX  = 15", "BITPIX  = 24", "BITPIX  = 128", "BITPIX  = 16.", "BITPIX  = '16'", "BITPIX  = -32", "BITPIX  = 4294967312", "BITPIX  = T", "BITPIX  =", "NAXIS   = 16"},
		"NAXIS":    {"NAXIS   = 0", "NAXIS   = 1", "NAXIS   = 3", "NAXIS   = -1", "NAXIS   = 4", "NAXIS   = 2.", "NAXIS   = 9223372036854775807", "NAXIS   = 4294967298", "NAXIS   = '2'", "NAXIS0  = 2", ""},
		"NAXIS1":   {"NAXIS1  = 0", "NAXIS1  = -2", "NAXIS1  = 2.0", "NAXIS2  = 2", "NAXIS1  = 9223372036854775807", "NAXIS1  = -9223372036854775808", "NAXIS1  = 4294967298", "NAXIS01 = 2", "NAXIS   = 2", "COMMENT x"},
		"NAXIS2":   {"NAXIS2  = 0", "NAXIS2  = -2", "NAXIS1  = 2", "NAXIS3  = 2", "NAXIS2  = 10001", "NAXIS2  = 5001", "NAXIS2  = 4611686018427387905", "NAXIS2  = T"},
		"PCOUNT":   {"PCOUNT  = 1", "PCOUNT  = -1", "PCOUNT  = 0.", "GCOUNT  = 0", "PCOUNT  =", "PCOUNT  = '0'", "PCOUNT  = F"},
		"GCOUNT":   {"GCOUNT  = 0", "GCOUNT  = 2", "GCOUNT  = 1.", "PCOUNT  = 1", "GCOUNT  = T", "GCOUNT  = -1"},
	}
	for _, start := range []bool{true, false} {
		lines := header(f, start)
		before := written([]api.Frame{f})
		if start {
			before = ""
		}
		for at := range len(lines) - 1 {
			key := strings.TrimRight(lines[at][:8], " ")
			if len(wrong[key]) == 0 {
				t.Error(key)
			}
			for _, other := range wrong[key] {
				fails(t, before+sealed(changed(lines, at, other), data(f)), api.ErrForm)
			}
			fails(t, before+sealed(slices.Delete(slices.Clone(lines), at, at+1), data(f)), api.ErrForm)
			fails(t, before+sealed(slices.Insert(slices.Clone(lines), at, lines[at]), data(f)), api.ErrForm)
			fails(t, before+sealed(slices.Insert(slices.Clone(lines), at, line("COMMENT x")), data(f)), api.ErrForm)
			fails(t, before+plain(lines[:at], data(f)), api.ErrForm)
			for to := range at {
				moved := slices.Clone(lines)
				moved[at], moved[to] = moved[to], moved[at]
				fails(t, before+sealed(moved, data(f)), api.ErrForm)
			}
		}
	}
	// The kind of the first unit, and of the others.
	fails(t, sealed(header(f, false), data(f)), api.ErrForm)
	fails(t, written([]api.Frame{f})+written([]api.Frame{f}), api.ErrForm)
}

// P9.3: ErrForm if other cards have a reserved keyword, or sums come twice or are
// of another kind.
func TestReservedCards(t *testing.T) {
	f := small()
	lines, s := header(f, true), data(f)
	for _, other := range []string{
		"SIMPLE  = T", "XTENSION= 'IMAGE'", "BITPIX  = 16", "NAXIS   = 2", "NAXIS1  = 2", "NAXIS2  = 2", "NAXIS3  = 2", "PCOUNT  = 0", "GCOUNT  = 1", "SIMPLE  =",
		"DATASUM = " + fmt.Sprint(total(s)), "DATASUM =", "DATASUM = T", "CHECKSUM= 0", "CHECKSUM= T", "CHECKSUM=", "CHECKSUM= 1.5", "NAXIS3  = 'x'",
	} {
		fails(t, plain(append(lines, line(other)), s), api.ErrForm)
		fails(t, plain(slices.Insert(slices.Clone(lines), 5, line(other)), s), api.ErrForm)
	}
	for _, twice := range [][]string{{dataSum(s), dataSum(s)}, {noSum, noSum}, {dataSum(s), noSum, dataSum(s)}, {line("CHECKSUM= 'x'"), dataSum(s), noSum}, {dataSum(s), line("DATASUM = T")}} {
		fails(t, coded(plain(append(lines, twice...), s)), api.ErrForm)
	}
	g := f
	g.Cards = append(g.Cards, api.Card{Key: "NAXIS4", Kind: api.CardWhole, N: 2})
	parses(t, sealed(append(lines, line("NAXIS4  = 2")), s), g)
}

// P9.3: ErrForm if a line cannot be read.
func TestWrongLines(t *testing.T) {
	f := small()
	lines, s := header(f, true), data(f)
	for _, wrong := range []string{"KEY     = 1 2", "key     = 1", "END     = 1", "END x", "END" + many(" ", 76) + "x", "CONTINUE  'x'", "A\x00      = 1", "A       = 'é'", "KEY", "KEY     =1", " END"} {
		fails(t, sealed(append(lines, line(wrong)), s), api.ErrForm)
	}
	for at := range lines[:5] {
		for _, wrong := range []string{"\x00", "\x7f", "\t", "\xff"} {
			fails(t, sealed(changed(lines, at, lines[at][:79]+wrong), s), api.ErrForm)
		}
	}
	g := f
	g.Cards = append(g.Cards, api.Card{Kind: api.CardNote, Text: "END"}, api.Card{}, api.Card{})
	g.Cards[3].Kind, g.Cards[4].Kind, g.Cards[4].Text = api.CardNote, api.CardNote, "  x"
	parses(t, sealed(append(lines, line("        END"), line(""), line("          x")), s), g)
}

// P9.3: the blocks of a header end with spaces behind END, and only spaces.
func TestEndOfHeader(t *testing.T) {
	for count := range 80 {
		f := with(of(8, 1), count)
		f.Raw[0] = 7
		s := plain(header(f, true), data(f))
		parses(t, s, f)
		end, size := 80*(4+count), len(s)-2880
		for _, wrong := range []byte{'x', 0, '\n'} {
			for _, at := range []int{end, end + 2, end + 3, end + 79, end + 80, size - 1} {
				if at < size {
					fails(t, s[:at]+string(wrong)+s[at+1:], api.ErrForm)
				}
			}
		}
		for _, left := range []int{0, 1, 79, 80, end - 1, end, end + 3, end + 79, end + 80, size - 1, size, size + 1, len(s) - 1} {
			if left < len(s) {
				fails(t, s[:left], api.ErrForm)
			}
		}
		// A second END is not a space.
		if end+160 <= size {
			fails(t, s[:end+80]+line("END")+s[end+160:], api.ErrForm)
		}
	}
}

// P9.3: the data have their blocks, which end with bytes 0.
func TestEndOfData(t *testing.T) {
	for _, bits := range []int{8, 16, 32, 64} {
		for _, size := range []int{1, 2, 45, 359, 360, 361, 720, 721, 2879, 2880, 2881, 10000} {
			f := of(bits, size)
			for i := range f.Raw {
				f.Raw[i] = 7
			}
			s := plain(header(f, true), data(f))
			parses(t, s, f)
			for at := 2880 + size*bits/8; at < len(s); at += 1 + (len(s)-at)/3 {
				for _, wrong := range []string{"\x01", " ", "\xff"} {
					fails(t, s[:at]+wrong+s[at+1:], api.ErrForm)
				}
			}
			for _, less := range []int{1, 2, 80, 1440, 2879, 2880} {
				fails(t, s[:len(s)-less], api.ErrForm)
			}
			for _, more := range []string{"\x00", " ", many(" ", 80), many("\x00", 2880), many(" ", 2880), line("END"), filled(line("END"), " ")} {
				fails(t, s+more, api.ErrForm)
			}
		}
	}
	f := of(8)
	fails(t, plain(header(f, true), many("\x00", 2880)), api.ErrForm)
	f = of(8, 1)
	fails(t, plain(header(f, true), ""), api.ErrForm)
	fails(t, plain(header(f, true), many("\x00", 5760)), api.ErrForm)
}

// P9.3: ErrForm without a unit, and for files of other kinds.
func TestOtherFiles(t *testing.T) {
	for _, s := range []string{
		"", "x", " ", "END", line("END"), filled(line("END"), " "), many(" ", 2880), many("\x00", 2880), many("x", 2880), many(" ", 28800), many("\xff", 3000), line("SIMPLE  = T"),
		filled(line("SIMPLE  = T")+line("END"), " "), filled(line("SIMPLE  = T")+line("BITPIX  = 8")+line("END"), " "), many(line("SIMPLE  = T"), 360), many(line("COMMENT"), 36),
	} {
		fails(t, s, api.ErrForm)
	}
}

// P9.3: each valid number of bits, of dimensions, and their products.
func TestShapes(t *testing.T) {
	for _, lengths := range [][]int{{10001}, {101, 100}, {100, 101}, {22, 22, 22}, {10000, 10000, 10000}, {1, 1, 10001}, {5000, 1, 3}} {
		for _, count := range []int{0, 1, 10000, 10001, 10100, 10648, 15000} {
			fails(t, plain(first(api.Frame{Bits: 8, Shape: lengths}, true), filled(many("\x00", count), "\x00")), api.ErrForm)
		}
	}
	for _, bits := range []int{0, 1, 7, 9, 12, 24, 40, 48, 56, 63, 65, -8, -64} {
		f := of(bits, 3)
		for _, data := range []string{"", many("\x00", 2880)} {
			fails(t, plain(first(f, true), data), api.ErrForm)
			fails(t, plain(first(of(bits), true), data), api.ErrForm)
		}
	}
	f := of(8, 1, 1, 1)
	f.Shape = []int{1, 1, 1, 1}
	fails(t, plain(first(f, true), data(f)), api.ErrForm)
}

// P9.3: frames with up to 150 cards, whose headers have up to 160 cards.
func TestCountOfCards(t *testing.T) {
	one := with(of(16), 150)
	for _, start := range []bool{true, false} {
		for _, shape := range [][]int{nil, {1, 1, 1}} {
			for _, count := range []int{0, 149, 150, 151, 152, 189, 190, 191, 200, 201, 300, 2000} {
				f := with(of(16, shape...), count)
				lines := slices.Clone(first(f, start))
				for _, c := range f.Cards {
					lines = append(lines, line(fmt.Sprintf("%-8s= %d", c.Key, c.N)))
				}
				s, list := sealed(lines, data(f)), []api.Frame{f}
				if !start {
					s, list = written([]api.Frame{one})+s, []api.Frame{one, f}
				}
				if count <= 150 {
					parses(t, s, list...)
				} else {
					fails(t, s, api.ErrForm)
				}
			}
		}
	}
	// Lines that continue a text are no cards.
	f := of(8, 2)
	for range 150 {
		f.Cards = append(f.Cards, api.Card{Key: "LONG", Kind: api.CardText, Text: many("'", 300)})
	}
	parses(t, written([]api.Frame{f, f}), f, f)
}

// P9.3: ErrMany with more than 10 units, but only if all of them can be read.
func TestCountOfUnits(t *testing.T) {
	f := small()
	start, other := sealed(header(f, true), data(f)), sealed(header(f, false), data(f))
	spoilt := strings.Replace(other, "'x       '", "'y       '", 1)
	for count := 1; count <= 25; count++ {
		s := start + many(other, count-1)
		if count <= 10 {
			parses(t, s, slices.Repeat([]api.Frame{f}, count)...)
			fails(t, s+"\x00", api.ErrForm)
			if count < 10 {
				fails(t, s+spoilt, api.ErrSum)
			}
			continue
		}
		fails(t, s, api.ErrMany)
		fails(t, s+spoilt, api.ErrMany)
		fails(t, start+spoilt+many(other, count-2), api.ErrMany)
		for _, wrong := range []string{"\x00", " ", start, other[:2880], other[:len(other)-1] + "\x01"} {
			fails(t, s+wrong, api.ErrForm)
			fails(t, start+spoilt+many(other, count-2)+wrong, api.ErrForm)
		}
	}
}

// P9.3: ErrSum if DATASUM is not the sum of the data in decimal, with or without
// a right CHECKSUM.
func TestWrongDataSum(t *testing.T) {
	for _, f := range []api.Frame{small(), of(8), of(8, 5), with(of(8), 3)} {
		lines, s := header(f, true), data(f)
		text := fmt.Sprint(total(s))
		for _, wrong := range []string{"", "0" + text, "+" + text, " " + text, text + ".", text + "0", "x", "-1", "4294967295", "4294967296", many("0", 60), "1" + text} {
			l := append(slices.Clone(lines), line("DATASUM = '"+wrong+"'"))
			fails(t, plain(l, s), api.ErrSum)
			fails(t, coded(plain(append(l, noSum), s)), api.ErrSum)
		}
		parses(t, plain(append(slices.Clone(lines), line("DATASUM = '"+text+"'")), s), f)
	}
	// Any of several units.
	f := small()
	start, other := written([]api.Frame{f}), sealed(header(f, false), data(f))
	wrong := plain(append(header(f, false), line("DATASUM = '1'")), data(f))
	for count := range 9 {
		fails(t, start+many(other, count)+wrong+many(other, 8-count), api.ErrSum)
	}
	fails(t, plain(append(header(f, true), line("CHECKSUM= '1'")), data(f))+other, api.ErrSum)
	fails(t, start+plain(append(header(f, false), line("CHECKSUM= '1'")), data(f))+other, api.ErrSum)
}

// P9.3: ErrSum only if the file can be read.
func TestFormBeforeSum(t *testing.T) {
	f := small()
	wrong := plain(append(header(f, true), line("DATASUM = '1'"), noSum), data(f))
	other := sealed(header(f, false), data(f))
	fails(t, wrong, api.ErrSum)
	fails(t, wrong+other, api.ErrSum)
	fails(t, wrong+other+"x", api.ErrForm)
	fails(t, wrong+other[:2880], api.ErrForm)
	fails(t, wrong[:len(wrong)-1]+"x", api.ErrForm)
	fails(t, strings.Replace(wrong, "'x       '", "'\x00       '", 1), api.ErrForm)
}
