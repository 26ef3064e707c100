package frac_test

import (
	"math"
	"math/big"
	"math/rand"
	"regexp"
	"strconv"
	"strings"
	"testing"

	"planisphere/api"
	"planisphere/frac"
	"planisphere/wide"
)

// P2.5: Text.
func TestText(t *testing.T) {
	for _, f := range samples(41, 300, 900) {
		x := number(f.Num).String()
		if den := number(f.Den).String(); den != "1" {
			x += "/" + den
		}
		if s, e := frac.Text(f); s != x || e != api.OK {
			t.Error(s, e, x)
		}
	}
	for _, w := range []api.Wide{huge().Num, greatest()} {
		text, _ := wide.Text(w)
		if s, e := frac.Text(api.Frac{Num: negative(w), Den: wide.From(1)}); s != "-"+text || e != api.OK {
			t.Error("a long number")
		}
		if s, e := frac.Text(api.Frac{Num: wide.From(1), Den: w}); s != "1/"+text || e != api.OK {
			t.Error("a long denominator")
		}
	}
}

// scale is 10^k.
func scale(k int) *big.Rat {
	n := new(big.Int).Exp(big.NewInt(10), big.NewInt(int64(max(k, -k))), nil)
	if k < 0 {
		return new(big.Rat).SetFrac(big.NewInt(1), n)
	}
	return new(big.Rat).SetInt(n)
}

// decimal is what Decimal should return.
func decimal(x *big.Rat, digits int) string {
	n := rounded(new(big.Rat).Mul(x, scale(digits)))
	text := new(big.Int).Abs(n).String()
	if len(text) <= digits {
		text = strings.Repeat("0", digits+1-len(text)) + text
	}
	if point := len(text) - digits; digits > 0 {
		text = text[:point] + "." + text[point:]
	}
	if n.Sign() < 0 {
		text = "-" + text
	}
	return text
}

// P2.5: Decimal.
func TestDecimal(t *testing.T) {
	for _, f := range samples(42, 300, 200) {
		for digits := range 51 {
			x := decimal(value(f), digits)
			if s, e := frac.Decimal(f, digits); s != x || e != api.OK {
				t.Error(brief(f), digits, s, e, x)
			}
		}
	}
}

// P2.5: Decimal of ties, of numbers with zeros in front, and of 0.
func TestDecimalForms(t *testing.T) {
	for _, x := range []struct {
		num, den int64
		digits   int
		want     string
	}{
		{2, 3, 3, "0.667"}, {-1, 1000, 2, "0.00"}, {-1, 200, 2, "0.00"}, {-3, 200, 2, "-0.02"},
		{1, 8, 2, "0.12"}, {3, 8, 2, "0.38"}, {-1, 8, 2, "-0.12"}, {-3, 8, 2, "-0.38"},
		{1, 2, 0, "0"}, {3, 2, 0, "2"}, {-1, 2, 0, "0"}, {-3, 2, 0, "-2"}, {12345, 1, 0, "12345"},
		{0, 1, 0, "0"}, {0, 1, 1, "0.0"}, {0, 1, 4, "0.0000"},
		{1, 20, 1, "0.0"}, {3, 20, 1, "0.2"}, {19, 20, 1, "1.0"}, {-19, 20, 1, "-1.0"},
		{199, 200, 2, "1.00"}, {1999, 200, 2, "10.00"}, {-7, 1, 2, "-7.00"}, {1, 100, 2, "0.01"},
		{5, 1, 50, "5." + strings.Repeat("0", 50)}, {-1, 3, 50, "-0." + strings.Repeat("3", 50)},
	} {
		if s, e := frac.Decimal(of(x.num, x.den), x.digits); s != x.want || e != api.OK {
			t.Error(x.num, x.den, x.digits, s, e)
		}
	}
}

// P2.5: the errors of Decimal.
func TestDecimalErrors(t *testing.T) {
	for _, f := range []api.Frac{zero(), of(1, 3), huge()} {
		for _, digits := range []int{-1, 51, -50, 1000, math.MinInt, math.MaxInt} {
			if s, e := frac.Decimal(f, digits); s != "" || e != api.ErrArg {
				t.Error(digits, s, e)
			}
		}
	}
	near := api.Frac{Num: greatest(), Den: power(131071)}
	for _, f := range []api.Frac{huge(), minus(huge()), near} {
		for _, digits := range []int{1, 50} {
			if s, e := frac.Decimal(f, digits); s != "" || e != api.ErrRange {
				t.Error(digits, len(s), e)
			}
		}
	}
	if s, e := frac.Decimal(near, 0); s != "2" || e != api.OK {
		t.Error("a long fraction", s, e)
	}
	if s, e := frac.Decimal(minus(tiny()), 50); s != "0."+strings.Repeat("0", 50) || e != api.OK {
		t.Error("a tiny fraction", s, e)
	}
	text, _ := wide.Text(power(131071))
	if s, e := frac.Decimal(minus(huge()), 0); s != "-"+text || e != api.OK {
		t.Error("a huge fraction", e)
	}
}

// meant is what a numeral stands for, unless the number behind "/" is 0.
func meant(s string) *big.Rat {
	num, den, isQuotient := strings.Cut(s, "/")
	x, _ := new(big.Rat).SetString(num)
	if isQuotient {
		// Rat's own quotients take a 0 in front for a mark of octal numbers.
		n, _ := new(big.Int).SetString(den, 10)
		x.Quo(x, new(big.Rat).SetInt(n))
	}
	return x
}

// parses checks Parse of a text, which stands for a number.
func parses(t *testing.T, s string, x *big.Rat) {
	t.Helper()
	got, e := frac.Parse(s)
	want(t, "Parse of "+s, got, e, valid(x))
}

// P2.5: numerals of each form.
func TestParse(t *testing.T) {
	for _, x := range []struct {
		text     string
		num, den int64
	}{
		{"0", 0, 1}, {"-0", 0, 1}, {"000", 0, 1}, {"0.0", 0, 1}, {"-0.00e9", 0, 1}, {"0e-999", 0, 1},
		{"0/7", 0, 1}, {"-0/7", 0, 1}, {"0/007", 0, 1},
		{"7", 7, 1}, {"007", 7, 1}, {"-007", -7, 1}, {"12.50", 25, 2}, {"-0.125", -1, 8}, {"00.10", 1, 10},
		{"1.25e1", 25, 2}, {"100e-2", 1, 1}, {"-1e3", -1000, 1}, {"5e0", 5, 1}, {"5e-0", 5, 1}, {"5e000", 5, 1},
		{"5e01", 50, 1}, {"5e-01", 1, 2}, {"2.5e-001", 1, 4}, {"1.5e002", 150, 1},
		{"-2/4", -1, 2}, {"6/3", 2, 1}, {"0012/0018", 2, 3}, {"1/1", 1, 1}, {"-10/4", -5, 2},
	} {
		parses(t, x.text, big.NewRat(x.num, x.den))
	}
}

// filled is a text with a digit in its middle that is repeated until it has
// size bytes.
func filled(front, digit, back string, size int) string {
	return front + strings.Repeat(digit, size-len(front)-len(back)) + back
}

// P2.5: the longest numerals, and those that are a byte longer.
func TestParseLong(t *testing.T) {
	most := api.MaxNumeral
	for _, x := range []struct{ front, digit, back string }{
		{"", "9", ""}, {"-", "7", ""}, {"", "0", ""}, {"", "0", "5"},
		{"0.", "0", "1"}, {"-1.", "3", ""}, {"", "4", ".5"},
		{"0.", "0", "1e-999"}, {"-", "9", "e999"}, {"9", "0", "e-999"}, {"0.", "0", "1e999"},
		{"1/", "9", ""}, {"-", "6", "/9"}, {"1/", "0", "8"}, {"", "0", "/3"},
	} {
		s := filled(x.front, x.digit, x.back, most)
		parses(t, s, meant(s))
		got, e := frac.Parse(filled(x.front, x.digit, x.back, most+1))
		fails(t, "a numeral that is too long", got, e, api.ErrForm)
	}
	got, e := frac.Parse(strings.Repeat("1", 1<<20))
	fails(t, "a very long text", got, e, api.ErrForm)
}

// P2.5: all powers of ten.
func TestParsePowers(t *testing.T) {
	for k := range 1000 {
		text := strconv.Itoa(k)
		parses(t, "1e"+text, scale(k))
		parses(t, "-3e-"+text, new(big.Rat).Mul(big.NewRat(-3, 1), scale(-k)))
	}
}

// P2.5: ErrZero if the number behind "/" is 0.
func TestParseZero(t *testing.T) {
	for _, s := range []string{"1/0", "0/0", "-5/000", "007/0", filled("1/", "0", "", api.MaxNumeral)} {
		got, e := frac.Parse(s)
		fails(t, "Parse of "+s, got, e, api.ErrZero)
	}
}

// P2.5: ErrForm if a text is no numeral.
func TestParseForm(t *testing.T) {
	for _, s := range []string{
		"", " ", "-", "--1", "+1", "1-", "1 ", " 1", "1\n", "\x00", "1\x00", "\xff", "1\xff", "a", "x1", "1x",
		".", ".5", "1.", "-.5", "-1.", "1..5", "1.5.5", "1.-5", "1. 5", "1,5", "1_000", "0x10", "Inf", "NaN",
		"e", "e5", "1e", "1e+2", "1e--2", "1e-", "1e1234", "1e0000", "1e-1234", "1e1.5", "1.e5", ".e1", "1.5e", "1E5", "1e5e5", "1ee5", "1e 5",
		"/", "1/", "/2", "-/2", "1/-2", "1/+2", "1//2", "1/2/3", "1/2e3", "1/2.0", "1.5/2", "1e5/2", "1/ 2", "1 /2", "1/x",
		"1/0x", "1/0/", "1/0e1", "1/-0", "\u0661", "\uff11", "1\u0663", "\u22121", "1\u20442", "1\u20ac", "\u00bd",
	} {
		got, e := frac.Parse(s)
		fails(t, "Parse of "+strconv.Quote(s), got, e, api.ErrForm)
	}
}

// P2.5: texts of the bytes that numerals have.
func TestParseAll(t *testing.T) {
	form := regexp.MustCompile(`^-?[0-9]+((\.[0-9]+)?(e-?[0-9]{1,3})?|/[0-9]+)$`)
	r := rand.New(rand.NewSource(43))
	counts := map[api.Errno]int{}
	for range 200000 {
		text := make([]byte, 1+r.Intn(9))
		for i := range text {
			text[i] = "0123456789-./e01-./e"[r.Intn(20)]
		}
		s := string(text)
		got, e := frac.Parse(s)
		counts[e]++
		_, den, _ := strings.Cut(s, "/")
		switch {
		case !form.MatchString(s):
			fails(t, "Parse of "+s, got, e, api.ErrForm)
		case den != "" && strings.Trim(den, "0") == "":
			fails(t, "Parse of "+s, got, e, api.ErrZero)
		default:
			want(t, "Parse of "+s, got, e, valid(meant(s)))
		}
	}
	if counts[api.OK] < 10000 || counts[api.ErrZero] < 100 {
		t.Error("there were few numerals", counts)
	}
}
