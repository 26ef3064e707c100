package frame_test

import (
	"fmt"
	"slices"
	"testing"

	"planisphere/api"
	"planisphere/frame"
)

// spare is a frame whose lists have other elements behind them in memory.
func spare(f api.Frame) api.Frame {
	f.Shape = append(slices.Clone(f.Shape), 5, 6)[:len(f.Shape)]
	f.Raw = append(slices.Clone(f.Raw), 7, 8)[:len(f.Raw)]
	f.Cards = append(slices.Clone(f.Cards), api.Card{Key: "X"}, api.Card{Key: "Y"})[:len(f.Cards)]
	return f
}

// all is the text of a frame with what is behind its lists.
func all(f api.Frame) string {
	return fmt.Sprint(f.Bits, f.Shape[:len(f.Shape)+2], f.Raw[:len(f.Raw)+2], f.Cards[:len(f.Cards)+2])
}

// R2: frames are not modified, with the memory behind their lists.
func TestMemory(t *testing.T) {
	for _, f := range frames(11) {
		l := []api.Frame{spare(f), spare(f), spare(f)}[:2]
		was := all(l[0])
		frame.Check(l[0])
		frame.Bytes(l)
		frame.Value(l[0], 0)
		frame.Value(l[0], -1)
		for i := range 3 {
			if all(l[:3][i]) != was {
				t.Errorf("%v of %.200v has changed", i, f)
			}
		}
	}
}

// R2: results share no memory with each other.
func TestNewMemory(t *testing.T) {
	f, g := small(), small()
	s := file(t, f, g)
	for range 2 {
		l, e := frame.Parse(s)
		if e != api.OK || !same(l[0], f) || !same(l[1], g) {
			t.Fatal(l, e)
		}
		for i := range l[0].Raw[:cap(l[0].Raw)] {
			l[0].Raw[:cap(l[0].Raw)][i] = -5
		}
		for i := range l[0].Shape[:cap(l[0].Shape)] {
			l[0].Shape[:cap(l[0].Shape)][i] = -5
		}
		for i := range l[0].Cards[:cap(l[0].Cards)] {
			l[0].Cards[:cap(l[0].Cards)][i].Key = "SPOILT"
		}
		if !same(l[1], g) {
			t.Error(l[1])
		}
	}
	h := small()
	h.Cards = []api.Card{{Key: "BSCALE", Kind: api.CardReal, N: 5, E: -1}}
	for range 2 {
		v, _ := frame.Value(h, 2)
		if len(v.Num.Mag) == 0 || v.Num.Mag[0] != 32767 {
			t.Error(v)
		}
		v.Num.Mag[0], v.Den.Mag[0] = 9, 9
	}
}

// R3: lists that are nil and those that are empty are equal.
func TestEmpty(t *testing.T) {
	empty := api.Frame{Bits: 32, Shape: []int{}, Raw: []int64{}, Cards: []api.Card{}}
	if s := file(t, empty, empty); s != file(t, of(32), of(32)) {
		t.Errorf("%q", s)
	}
	checks(t, empty, true)
}

// R2: nothing is kept from call to call.
func TestCallsAlone(t *testing.T) {
	f := small()
	s := file(t, f)
	for range 3 {
		fails(t, s[:len(s)-1], api.ErrForm)
		parses(t, s, f)
		fails(t, s[:2880]+"\x01"+s[2881:], api.ErrSum)
		prints(t, f)
	}
}
