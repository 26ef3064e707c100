package frame_test

import (
	"math/rand"
	"slices"
	"strings"
	"testing"

	"planisphere/api"
	"planisphere/frame"
)

// prints checks the file of frames.
func prints(t *testing.T, l ...api.Frame) {
	t.Helper()
	s, e := frame.Bytes(l)
	if want := written(l); e != api.OK || s != want {
		t.Errorf("%.400v: %.400q %v instead of %.400q", l, s, e, want)
	}
}

// P9.2: files of one frame and of several ones, of all kinds.
func TestBytes(t *testing.T) {
	r := rand.New(rand.NewSource(4))
	all := frames(5)
	for _, f := range all {
		prints(t, f)
		prints(t, f, f)
	}
	for range 200 {
		var l []api.Frame
		for range 1 + r.Intn(api.MaxFrames) {
			l = append(l, random(r))
		}
		prints(t, l...)
	}
}

// P9.2: the lines of a header, letter by letter.
func TestLines(t *testing.T) {
	f := api.Frame{Bits: 16, Shape: []int{3, 1, 2}, Raw: []int64{1, -2, 3, 0, 32767, -32768}}
	f.Cards = []api.Card{{Key: "COMMENT", Kind: api.CardNote, Text: "what"}, {Key: "BZERO", Kind: api.CardReal, N: 5, E: -1, Note: "half"}}
	s, e := frame.Bytes([]api.Frame{f, f})
	if e != api.OK || len(s) != 4*2880 {
		t.Fatal(len(s), e)
	}
	data := "\x00\x01\xff\xfe\x00\x03\x00\x00\x7f\xff\x80\x00" + many("\x00", 2868)
	if s[2880:5760] != data || s[8640:] != data {
		t.Errorf("%.40q %.40q", s[2880:], s[8640:])
	}
	common := []string{
		"BITPIX  =                   16", "NAXIS   =                    3", "NAXIS1  =                    3", "NAXIS2  =                    1",
		"NAXIS3  =                    2",
	}
	// 0x0001fffe + 0x00030000 + 0x7fff8000 is 0x80047ffe.
	last := []string{"COMMENT what", "BZERO   =                5.E-1 / half", "DATASUM = '2147778558'"}
	begins := slices.Concat([]string{"SIMPLE  =                    T"}, common, last)
	others := slices.Concat([]string{"XTENSION= 'IMAGE   '"}, common, []string{"PCOUNT  =                    0", "GCOUNT  =                    1"}, last)
	for at, begins := range map[int][]string{0: begins, 5760: others} {
		for i, begin := range begins {
			if got := s[at+80*i : at+80*i+80]; got != line(begin) {
				t.Errorf("%q instead of %q", got, begin)
			}
		}
		end := s[at+80*len(begins) : at+2880]
		if !strings.HasPrefix(end, "CHECKSUM= '") || end[27:80] != "'"+many(" ", 52) || end[80:] != "END"+many(" ", len(end)-83) {
			t.Errorf("%q", end)
		}
	}
}

// P9.2: the example of a frame without dimensions.
func TestWithoutDimensions(t *testing.T) {
	for _, bits := range []int{8, 16, 32, 64} {
		s, e := frame.Bytes([]api.Frame{{Bits: bits}})
		begin := strings.Join(first(of(bits), true), "") + line("DATASUM = '0       '") + "CHECKSUM= '"
		if e != api.OK || len(s) != 2880 || !strings.HasPrefix(s, begin) || s[5*80:] != line("END")+many(" ", 30*80) {
			t.Errorf("%q %v", s, e)
		}
	}
}

// P9.2: headers and data fill as few blocks as they can.
func TestBlocks(t *testing.T) {
	for count := range api.MaxExtra + 1 {
		lines := 3 + count + 3
		s, e := frame.Bytes([]api.Frame{with(of(8), count)})
		if e != api.OK || len(s) != (lines+35)/36*2880 {
			t.Error(count, len(s), e)
		}
	}
	for _, bits := range []int{8, 16, 32, 64} {
		for _, size := range []int{1, 359, 360, 361, 719, 720, 721, 1440, 1441, 2879, 2880, 2881, 5760, 5761, 9999, 10000} {
			s, e := frame.Bytes([]api.Frame{of(bits, size)})
			if e != api.OK || len(s) != 2880+(size*bits/8+2879)/2880*2880 {
				t.Error(bits, size, len(s), e)
			}
		}
	}
}

// P9.2: ErrNone without a frame, ErrMany with too many, and then ErrBad.
func TestBytesErrors(t *testing.T) {
	fails := func(l []api.Frame, want api.Errno) {
		t.Helper()
		if s, e := frame.Bytes(l); e != want || s != "" {
			t.Errorf("%.80v: %.80q %v instead of %v", l, s, e, want)
		}
	}
	fails(nil, api.ErrNone)
	fails([]api.Frame{}, api.ErrNone)
	for count := 1; count <= 13; count++ {
		l := slices.Repeat([]api.Frame{of(8, 2)}, count)
		if count <= 10 {
			prints(t, l...)
		} else {
			fails(l, api.ErrMany)
		}
		for at := range l {
			wrong := slices.Clone(l)
			wrong[at].Raw = []int64{1, 256}
			if count <= 10 {
				fails(wrong, api.ErrBad)
			} else {
				fails(wrong, api.ErrMany)
			}
		}
	}
	fails([]api.Frame{with(of(8), 151)}, api.ErrBad)
	fails([]api.Frame{{}}, api.ErrBad)
	fails(make([]api.Frame, 11), api.ErrMany)
}
