package pouch_test

import (
	"bytes"
	"compress/flate"
	"strings"
	"testing"
)

// The tests write streams as texts of '0' and '1', in the order in which the bits are read.

// number has its lowest bit first.
func number(n, width int) string {
	var b strings.Builder
	for i := range width {
		b.WriteByte('0' + byte(n>>i&1))
	}
	return b.String()
}

// word has its highest bit first, as codes have.
func word(n, width int) string {
	var b strings.Builder
	for i := width - 1; i >= 0; i-- {
		b.WriteByte('0' + byte(n>>i&1))
	}
	return b.String()
}

// pack makes bytes of bits; what is missing of the last byte is filled with the bit fill.
func pack(bits string, fill byte) string {
	for len(bits)%8 != 0 {
		bits += string(fill)
	}
	out := make([]byte, len(bits)/8)
	for i := range len(bits) {
		out[i/8] |= (bits[i] - '0') << (i % 8)
	}
	return string(out)
}

const (
	going = "0"
	last  = "1"
)

const (
	storedKind  = "00"
	staticKind  = "10"
	dynamicKind = "01"
	wrongKind   = "11"
)

const endSymbol = 256

func staticSymbol(s int) string {
	switch {
	case s < 144:
		return word(0b00110000+s, 8)
	case s < 256:
		return word(0b110010000+s-144, 9)
	case s < 280:
		return word(s-256, 7)
	}
	return word(0b11000000+s-280, 8)
}

func staticBytes(text string) string {
	bits := ""
	for i := range len(text) {
		bits += staticSymbol(int(text[i]))
	}
	return bits
}

func staticDistance(symbol int) string { return word(symbol, 5) }

var staticEnd = staticSymbol(endSymbol)

// words gives each symbol its code, from the shortest ones on.
func words(lengths []int) map[int]string {
	list := map[int]string{}
	next := 0
	for length := 1; length <= 15; length++ {
		next *= 2
		for symbol, l := range lengths {
			if l == length {
				list[symbol] = word(next, length)
				next++
			}
		}
	}
	return list
}

var shortOrder = []int{16, 17, 18, 0, 8, 7, 9, 6, 10, 5, 11, 4, 12, 3, 13, 2, 14, 1, 15}

// shortLengths use up all bits: 13 codes of 4 bits, 6 of 5.
var shortLengths = []int{4, 4, 4, 4, 4, 4, 4, 4, 4, 4, 4, 4, 4, 5, 5, 5, 5, 5, 5}

var shortWords = words(shortLengths)

// countBits are the three numbers of a dynamic block.
func countBits(symbols, distances, short int) string {
	return number(symbols-257, 5) + number(distances-1, 5) + number(short-4, 4)
}

// shortCode are the lengths of the short code as they stand in a stream.
func shortCode(lengths []int) string {
	bits := ""
	for _, symbol := range shortOrder {
		bits += number(lengths[symbol], 3)
	}
	return bits
}

// dynamicHead is all of a dynamic block that stands ahead of its symbols, without any repetition.
func dynamicHead(symbols, distances []int) string {
	bits := dynamicKind + countBits(len(symbols), len(distances), 19) + shortCode(shortLengths)
	for _, length := range symbols {
		bits += shortWords[length]
	}
	for _, length := range distances {
		bits += shortWords[length]
	}
	return bits
}

// lengthsOf has the lengths of some symbols among count ones; the others have none.
func lengthsOf(count int, some map[int]int) []int {
	lengths := make([]int, count)
	for symbol, length := range some {
		lengths[symbol] = length
	}
	return lengths
}

// shifted lays a block ahead that tells as many bytes 0xff as shift says, and so moves what follows by one bit for each.
func shifted(shift int, bits string) string {
	return going + staticKind + strings.Repeat(staticSymbol(255), shift) + staticEnd + bits
}

// deflated is a stream as another program writes it.
func deflated(t *testing.T, text string, level int) string {
	t.Helper()
	var b bytes.Buffer
	w, err := flate.NewWriter(&b, level)
	if err != nil {
		t.Fatal(err)
	}
	if _, err := w.Write([]byte(text)); err != nil {
		t.Fatal(err)
	}
	if err := w.Close(); err != nil {
		t.Fatal(err)
	}
	return b.String()
}
