package frame_test

import (
	"math/rand"
	"strings"
	"testing"

	"planisphere/api"
	"planisphere/frame"
)

// sums checks the sum of bytes.
func sums(t *testing.T, b string, want uint32) {
	t.Helper()
	if n, e := frame.Sum(b); e != api.OK || n != want {
		t.Errorf("%.80q: %v %v instead of %v", b, n, e, want)
	}
}

// P9.1: sums that are easily seen, many of which pass 2^32.
func TestSum(t *testing.T) {
	for b, want := range map[string]uint32{
		"": 0, "\x00\x00\x00\x00": 0, many("\x00", 2880): 0, "\x01\x02\x03\x04": 0x01020304, "\xff\xff\xff\xff": 1<<32 - 1, "\xff\xff\xff\xff\x00\x00\x00\x00": 1<<32 - 1,
		"\xff\xff\xff\xff\x00\x00\x00\x01": 1, "\xff\xff\xff\xff\x00\x00\x00\x02": 2, "\x80\x00\x00\x00\x80\x00\x00\x00": 1, "\xff\xff\xff\xfe\x00\x00\x00\x01": 1<<32 - 1,
		"\xff\xff\xff\xff\xff\xff\xff\xff\xff\xff\xff\xff": 1<<32 - 1, "\xff\xff\xff\xfe\x00\x00\x00\x02": 1, many("\xff", 1<<20): 1<<32 - 1, many("\x80\x00\x00\x00", 7): 0x80000003,
		"abcd" + "efgh": 0x61626364 + 0x65666768, many(" ", 80): 0x82828282,
	} {
		sums(t, b, want)
	}
}

// P9.1: sums of random bytes, with many zeros and ones.
func TestRandomSums(t *testing.T) {
	r := rand.New(rand.NewSource(2))
	for range 3000 {
		b := make([]byte, 4*r.Intn(40))
		for i := range b {
			b[i] = []byte{0, 0xff, byte(r.Intn(256)), 0xff, byte(r.Intn(256))}[r.Intn(2+r.Intn(4))]
		}
		sums(t, string(b), total(string(b)))
	}
}

// P9.1: ErrArg unless the number of bytes is a multiple of 4.
func TestSumOfParts(t *testing.T) {
	for count := range 300 {
		n, e := frame.Sum(many("a", count))
		if (e == api.OK) != (count%4 == 0) || e != api.OK && (e != api.ErrArg || n != 0) {
			t.Error(count, n, e)
		}
	}
}

// P9.1: codes that are easily seen, and the one of the chapter.
func TestCode(t *testing.T) {
	for v, want := range map[uint32]string{
		0: "0000000000000000", 1: "0000100000000000", 3: "0000300000000000", 4: "1000100010001000", 3426738146: "hcHjjc9ghcEghc9g",
		0x01000000: "0100000000000000", 0x00010000: "0010000000000000", 0x00000100: "0001000000000000", 0xffffffff: "orrrrooooooooooo",
		40: "3000A0003000A000", 0x28000000: "0A0003000A000300", 0x6c6c6c6c: "KKKKKKKKKKKKKKKK",
	} {
		if s := frame.Code(v); s != want {
			t.Errorf("%#x: %q instead of %q", v, s, want)
		}
	}
}

// P9.1: codes of each byte in each place, and of random numbers.
func TestCodes(t *testing.T) {
	r := rand.New(rand.NewSource(3))
	var l []uint32
	for b := range uint32(256) {
		l = append(l, b, b<<8, b<<16, b<<24, b*0x01010101, ^b)
	}
	for range 20000 {
		l = append(l, r.Uint32())
	}
	for _, v := range l {
		s := frame.Code(v)
		if s != code(v) {
			t.Errorf("%#x: %q instead of %q", v, s, code(v))
		}
		if strings.Trim(s, "0123456789ABCDEFGHIJKLMNOPQRSTUVWXYZabcdefghijklmnopqrstuvwxyz") != "" {
			t.Errorf("%#x: %q has other characters", v, s)
		}
	}
}
