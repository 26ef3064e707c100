package frame

import (
	"strconv"
	"strings"

	"planisphere/api"
	"planisphere/card"
)

const (
	lineWidth = 80
	codeStart = 11 // where the text of CHECKSUM stands in its line
)

const (
	image   = "IMAGE" // the text of XTENSION
	noCode  = "0000000000000000"
	endLine = "END                                                                             "
)

// Bytes returns the units of frames, one after another.
func Bytes(l []api.Frame) (string, api.Errno) {
	if len(l) == 0 {
		return "", api.ErrNone
	}
	if len(l) > api.MaxFrames {
		return "", api.ErrMany
	}
	for _, f := range l {
		if e := Check(f); e != api.OK {
			return "", e
		}
	}
	var all strings.Builder
	for i, f := range l {
		all.Write(unitOf(f, i == 0))
	}
	return all.String(), api.OK
}

// unitOf returns the header and the data of a valid frame.
func unitOf(f api.Frame, first bool) []byte {
	data := dataOf(f)
	lines := linesOf(headerOf(f, first, sum(data)))
	size := blocks(len(lines))
	unit := make([]byte, size+len(data))
	header := unit[:size:size]
	for i := copy(header, lines); i < size; i++ {
		header[i] = ' '
	}
	copy(unit[size:], data)
	// The line of CHECKSUM is the last one but END.
	code := len(lines) - 2*lineWidth + codeStart
	copy(unit[code:code+codeWidth:code+codeWidth], Code(^sum(string(unit))))
	return unit
}

// dataOf returns the bytes of the elements of a valid frame, in whole blocks.
func dataOf(f api.Frame) string {
	width := f.Bits / 8
	data := make([]byte, blocks(len(f.Raw)*width))
	for i, n := range f.Raw {
		element := data[i*width : (i+1)*width : (i+1)*width]
		for j := range element {
			element[j] = byte(n >> (8 * (width - 1 - j)))
		}
	}
	return string(data)
}

// headerOf returns the cards of a valid frame, with the sum of its data, and
// with the text of CHECKSUM that the sum of the whole unit is made with.
func headerOf(f api.Frame, first bool, dataSum uint32) []api.Card {
	start := textCard(extensionKey, image)
	if first {
		start = api.Card{Key: simpleKey, Kind: api.CardFlag, Yes: true}
	}
	l := []api.Card{start, wholeCard(bitsKey, f.Bits), wholeCard(axesKey, len(f.Shape))}
	for i, length := range f.Shape {
		l = append(l, wholeCard(axisKey(i), length))
	}
	if !first {
		l = append(l, wholeCard(extraKey, 0), wholeCard(groupsKey, 1))
	}
	l = append(l, f.Cards...)
	return append(l, textCard(dataSumKey, decimal(dataSum)), textCard(unitSumKey, noCode))
}

// linesOf returns the lines of valid cards, which are not too many, and of END.
func linesOf(l []api.Card) string {
	lines, _ := card.Print(l)
	return lines + endLine
}

// axisKey returns the keyword of the length of an axis.
func axisKey(i int) string { return axesKey + strconv.Itoa(i+1) }

// wholeCard returns the card of a whole number.
func wholeCard(key string, n int) api.Card {
	return api.Card{Key: key, Kind: api.CardWhole, N: int64(n)}
}

// textCard returns the card of a text.
func textCard(key, text string) api.Card {
	return api.Card{Key: key, Kind: api.CardText, Text: text}
}

// decimal returns the text of a sum.
func decimal(n uint32) string { return strconv.FormatUint(uint64(n), 10) }

// blocks returns how many bytes the blocks have that hold so many bytes.
func blocks(size int) int { return (size + api.Block - 1) / api.Block * api.Block }
