package frame

import (
	"strings"

	"planisphere/api"
	"planisphere/card"
)

// Parse returns the frames of a file.
func Parse(s string) (l []api.Frame, e api.Errno) {
	defer func() {
		if wrong := recover(); wrong != nil {
			l, e = nil, api.ErrForm
		}
	}()
	r := &file{left: s}
	units := []unit{r.unit(true)}
	for r.left != "" {
		u := r.unit(false)
		// What comes behind the first one that is too many is only read.
		if len(units) <= api.MaxFrames {
			units = append(units, u)
		}
	}
	return frames(units)
}

// frames returns the frames of units.
func frames(units []unit) ([]api.Frame, api.Errno) {
	if len(units) > api.MaxFrames {
		return nil, api.ErrMany
	}
	l := make([]api.Frame, len(units))
	for i, u := range units {
		if !u.isIntact() {
			return nil, api.ErrSum
		}
		l[i] = u.frame
	}
	return l, api.OK
}

// demand leaves a file in which something is wrong.
func demand(right bool) {
	if !right {
		panic(api.ErrForm)
	}
}

// unit is a header and its data.
type unit struct {
	frame       api.Frame
	bytes, data string
	dataSum     noted
	unitSum     noted
}

// isIntact reports whether a unit has the sums that its header says.
func (u unit) isIntact() bool {
	if u.dataSum.found && u.dataSum.text != decimal(sum(u.data)) {
		return false
	}
	return !u.unitSum.found || sum(u.bytes) == 1<<32-1
}

// noted is the text of a card that may be in a header once.
type noted struct {
	found bool
	text  string
}

// read reads such a card.
func (n *noted) read(c api.Card) {
	demand(!n.found && c.Kind == api.CardText)
	n.found, n.text = true, c.Text
}

// file reads units.
type file struct {
	left string // the bytes that come next
}

// take reads so many bytes.
func (r *file) take(count int) string {
	demand(count <= len(r.left))
	taken := r.left[:count]
	r.left = r.left[count:]
	return taken
}

// unit reads a unit.
func (r *file) unit(first bool) unit {
	begin := r.left
	cards, e := card.Parse(r.lines())
	demand(e == api.OK)
	h := &header{left: cards}
	var u unit
	u.frame.Bits, u.frame.Shape = h.array(first)
	u.divide(h.left)
	u.data = r.data(&u.frame)
	u.bytes = begin[:len(begin)-len(r.left)]
	demand(Check(u.frame) == api.OK)
	return u
}

// lines reads the blocks of a header, and returns the lines in front of END.
func (r *file) lines() string {
	end := 0
	for r.lineAt(end) != endLine {
		end += lineWidth
	}
	behind := end + lineWidth
	taken := r.take(blocks(behind))
	demand(strings.Trim(taken[behind:], " ") == "")
	return taken[:end]
}

// lineAt returns the line that begins at a place, which is not read yet.
func (r *file) lineAt(place int) string {
	demand(place+lineWidth <= len(r.left))
	return r.left[place : place+lineWidth]
}

// data reads the blocks of the data of a frame, whose elements it sets.
func (r *file) data(f *api.Frame) string {
	count, right := elements(f.Shape)
	demand(right && isWidth(f.Bits))
	width := f.Bits / 8
	taken := r.take(blocks(count * width))
	demand(strings.Trim(taken[count*width:], "\x00") == "")
	f.Raw = make([]int64, count)
	for i := range f.Raw {
		f.Raw[i] = signed(taken[i*width : (i+1)*width])
	}
	return taken
}

// signed returns the element that bytes stand for.
func signed(b string) int64 {
	n, unused := int64(unsigned(b)), mostBits-8*len(b)
	if len(b) == leastBits/8 {
		return n
	}
	return n << unused >> unused
}

// divide takes the cards of the sums from those behind the first ones.
func (u *unit) divide(l []api.Card) {
	for _, c := range l {
		switch c.Key {
		case dataSumKey:
			u.dataSum.read(c)
		case unitSumKey:
			u.unitSum.read(c)
		default:
			u.frame.Cards = append(u.frame.Cards, c)
		}
	}
}

// header reads the first cards of a header.
type header struct {
	left []api.Card // the cards that come next
}

// array reads the cards that say of what width and shape the data are.
func (h *header) array(first bool) (bits int, shape []int) {
	flag, text, whole := h.flag, h.text, h.whole
	if first {
		demand(flag(simpleKey))
	} else {
		demand(text(extensionKey) == image)
	}
	bits = whole(bitsKey, leastBits, mostBits)
	for i := range whole(axesKey, 0, maxAxes) {
		shape = append(shape, whole(axisKey(i), 1, api.MaxPixels))
	}
	if !first {
		whole(extraKey, 0, 0)
		whole(groupsKey, 1, 1)
	}
	return bits, shape
}

// next reads a card.
func (h *header) next(key string, kind uint8) api.Card {
	demand(len(h.left) > 0)
	c := h.left[0]
	h.left = h.left[1:]
	demand(c.Key == key && c.Kind == kind)
	return c
}

// flag reads a CardFlag.
func (h *header) flag(key string) bool { return h.next(key, api.CardFlag).Yes }

// text reads a CardText.
func (h *header) text(key string) string { return h.next(key, api.CardText).Text }

// whole reads a CardWhole from least to most.
func (h *header) whole(key string, least, most int) int {
	n := h.next(key, api.CardWhole).N
	demand(int64(least) <= n && n <= int64(most))
	return int(n)
}
