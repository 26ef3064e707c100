package wide_test

import (
	"math/big"
	"strings"
	"testing"

	"planisphere/api"
	"planisphere/wide"
)

// P1.5: Text, and P1.6: Parse of Text.
func TestText(t *testing.T) {
	check := func(w api.Wide) {
		t.Helper()
		s, e := wide.Text(w)
		if s != toBig(w).String() || e != api.OK {
			t.Error("Text", brief(w), e)
		}
		got, e := wide.Parse(s)
		want(t, "Parse of "+brief(w), got, e, toBig(w))
	}
	each(200, 30, check)
	ten := big.NewInt(1)
	for range 60 {
		for _, off := range []int64{-1, 0, 1} {
			check(fromBig(new(big.Int).Add(ten, big.NewInt(off))))
			check(fromBig(new(big.Int).Sub(big.NewInt(off), ten)))
		}
		ten.Mul(ten, big.NewInt(10))
	}
	check(greatest())
	check(least())
	check(power(64))
	if s, e := wide.Text(power(64)); s != "18446744073709551616" || e != api.OK {
		t.Error("2^64", s, e)
	}
	if s, e := wide.Text(api.Wide{}); s != "0" || e != api.OK {
		t.Error("0", s, e)
	}
}

// P1.5: texts of numbers with zeros in them.
func TestParse(t *testing.T) {
	for _, s := range []string{"0", "1", "-1", "9", "10", "-100000000", "999999999", "1000000000", "1000000001", "-4294967295", "4294967296", "100000000000000000000000000000000000000000000000007"} {
		n, _ := new(big.Int).SetString(s, 10)
		got, e := wide.Parse(s)
		want(t, s, got, e, n)
	}
}

// P1.5: what is not a text of a number.
func TestParseForms(t *testing.T) {
	long := strings.Repeat("9", 50000)
	texts := []string{
		"", "-", "--1", "+1", "+", "-0", "00", "-00", "007", "-07", " 1", "1 ", "1\n", "\x001", "1\x00",
		"1.0", "1e3", "0x1", "1_000", "1,000", "1-", "a", "-a", "1/1", "٣", "１", "1\xff", "\xff", "−1",
		"0" + long, long + "x", "x" + long, long + "-", "-" + long + " ",
	}
	for _, s := range texts {
		got, e := wide.Parse(s)
		fails(t, "Parse of "+s[:min(len(s), 20)], got, e, api.ErrForm)
	}
}

// P1.5 and P1.1: the last numbers with a valid form, and the next ones.
func TestParseRange(t *testing.T) {
	over := toBig(greatest())
	over.Add(over, big.NewInt(1))
	got, e := wide.Parse(over.String())
	fails(t, "2^131072", got, e, api.ErrRange)
	got, e = wide.Parse(over.Neg(over).String())
	fails(t, "-2^131072", got, e, api.ErrRange)
	got, e = wide.Parse(strings.Repeat("9", 39457))
	fails(t, "10^39457 - 1", got, e, api.ErrRange)
	nines := strings.Repeat("9", 39456)
	n, _ := new(big.Int).SetString(nines, 10)
	got, e = wide.Parse(nines)
	want(t, "10^39456 - 1", got, e, n)
}
