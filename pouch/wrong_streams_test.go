package pouch_test

import (
	"strings"
	"testing"

	"pouch/pouch"
)

// mustGiveUpBehind holds to it that a stream is given up for ErrData just behind the last one of bits: it needs no bit more, and without that one bit it is not yet wrong.
func mustGiveUpBehind(t *testing.T, about, bits string) {
	t.Helper()
	for shift := range 8 {
		moved := shifted(shift, bits)
		for _, fill := range []byte{'0', '1'} {
			data := pack(moved, fill)
			mustGiveUp(t, "P5: "+about, data, 3000, pouch.ErrData)
			mustGiveUp(t, "P5: "+about+", and more", data+"\x00\x00\xff\xff\xff", 3000, pouch.ErrData)
			mustGiveUp(t, "P5: "+about+", cut", data[:len(data)-1], 3000, pouch.ErrEnd)
		}
	}
}

func TestWrongKind(t *testing.T) {
	mustGiveUpBehind(t, "a block of kind 3", last+wrongKind)
	mustGiveUpBehind(t, "a block of kind 3, not the last one", going+wrongKind)
	mustGiveUp(t, "P5: kind 3 in the first byte", "\x07", 0, pouch.ErrData)
}

func TestWrongComplement(t *testing.T) {
	for _, wrong := range []int{0, 3, 0xffff, 0xfffc ^ 1, 0xfffc ^ 0x8000, 0xfffd} {
		data := pack(last+storedKind+"00000"+number(3, 16)+number(wrong, 16), '0')
		mustGiveUp(t, "P5: no complement", data, 3000, pouch.ErrData)
		mustGiveUp(t, "P5: no complement, ahead of ErrMost", data+"abc", 0, pouch.ErrData)
		mustGiveUp(t, "P5: half a complement", data[:4], 3000, pouch.ErrEnd)
	}
	mustGiveUp(t, "P5: the same twice", "\x01\xaa\xaa\xaa\xaa", 3000, pouch.ErrData)
}

func TestTooManyCodes(t *testing.T) {
	for _, c := range [][3]int{{287, 1, 4}, {288, 1, 19}, {257, 31, 4}, {257, 32, 19}, {286, 31, 12}, {287, 30, 19}, {288, 32, 19}} {
		mustGiveUpBehind(t, "too many codes", last+dynamicKind+countBits(c[0], c[1], c[2]))
	}
}

func TestWrongShortCodes(t *testing.T) {
	head := last + dynamicKind
	for _, some := range []map[int]int{
		{},
		{0: 1},
		{18: 1},
		{0: 1, 1: 2},
		{0: 2, 1: 2, 2: 2},
		{0: 1, 1: 1, 2: 1},
		{0: 1, 1: 1, 15: 7},
		{0: 1, 1: 2, 2: 3, 3: 4, 4: 5, 5: 6, 6: 7},
	} {
		mustGiveUpBehind(t, "a short code that does not use up all bits", head+countBits(257, 1, 19)+shortCode(lengthsOf(19, some)))
	}
	for count := 4; count < 19; count++ {
		bits := shortCode(shortLengths)[:3*count]
		mustGiveUpBehind(t, "a short code without its last lengths", head+countBits(257, 1, count)+bits)
	}
}

func TestRepetitionsOfNothing(t *testing.T) {
	for times := 3; times <= 6; times++ {
		mustGiveUpBehind(t, "a repetition of nothing", lengthHead(257, 1)+again(times))
	}
}

// In each of these nothing is wrong but that the repetition goes too far.
func TestRepetitionsBeyondTheLastCode(t *testing.T) {
	one, two := shortWords[1], shortWords[2]
	zerosAndEnd := one + manyZeros(138) + manyZeros(117) + one
	for _, c := range []struct{ about, bits string }{
		{"16 by one too far", lengthHead(258, 3) + manyZeros(138) + manyZeros(116) + two + two + again(6)},
		{"16 by two too far", lengthHead(257, 2) + zerosAndEnd + shortWords[0] + again(3)},
		{"16 behind all but one", lengthHead(286, 30) + strings.Repeat(one, 315) + again(6)},
		{"17 by one too far", lengthHead(257, 30) + zerosAndEnd + manyZeros(21) + fewZeros(10)},
		{"17 by two too far", lengthHead(257, 1) + zerosAndEnd + fewZeros(3)},
		{"18 by one too far", lengthHead(257, 30) + zerosAndEnd + manyZeros(31)},
		{"18 as far as can be", lengthHead(257, 1) + zerosAndEnd + manyZeros(138)},
	} {
		mustGiveUpBehind(t, c.about, c.bits)
	}
}

func TestWrongCodesOfSymbols(t *testing.T) {
	for _, some := range []map[int]int{
		{'a': 1, 'b': 1},
		{},
		{endSymbol: 1},
		{endSymbol: 2},
		{'a': 1, endSymbol: 2},
		{'a': 1, 'b': 1, endSymbol: 1},
		{'a': 1, 'b': 2, 'c': 2, endSymbol: 15},
		{'a': 1, 'b': 2, 'c': 3, endSymbol: 15},
		{'a': 1, 'b': 2, 'c': 3, 'd': 3},
	} {
		mustGiveUpBehind(t, "a wrong code of bytes and lengths", last+dynamicHead(lengthsOf(257, some), []int{1}))
		mustGiveUpBehind(t, "a wrong code of bytes and lengths", last+dynamicHead(lengthsOf(286, some), []int{0, 1, 1}))
	}
}

func TestWrongCodesOfDistances(t *testing.T) {
	symbols := lengthsOf(257, map[int]int{'a': 1, endSymbol: 1})
	for _, distances := range [][]int{
		{2},
		{15},
		{0, 2},
		{1, 2},
		{2, 2},
		{2, 2, 2},
		{1, 1, 1},
		{1, 1, 15},
		{1, 2, 3, 4},
		lengthsOf(30, map[int]int{29: 3}),
		lengthsOf(30, map[int]int{0: 1, 29: 15}),
	} {
		mustGiveUpBehind(t, "a wrong code of distances", last+dynamicHead(symbols, distances))
	}
}

func TestBitsThatAreNoCode(t *testing.T) {
	symbols := lengthsOf(258, map[int]int{'a': 1, endSymbol: 2, 257: 2})
	code := words(symbols)
	for _, distances := range [][]int{{0}, lengthsOf(30, nil)} {
		for _, bits := range []string{strings.Repeat("0", 15), strings.Repeat("1", 15), "101010101010101"} {
			mustGiveUpBehind(t, "a distance where there is none", last+dynamicHead(symbols, distances)+code['a']+code[257]+bits)
		}
	}
	for _, distances := range [][]int{{1}, {0, 0, 1}} {
		for _, bits := range []string{strings.Repeat("1", 15), "1" + strings.Repeat("0", 14)} {
			mustGiveUpBehind(t, "a distance that is not the only one", last+dynamicHead(symbols, distances)+code['a']+code[257]+bits)
		}
	}
}

func TestSymbolsThatStandForNothing(t *testing.T) {
	for _, symbol := range []int{286, 287} {
		mustGiveUpBehind(t, "a symbol of no length", last+staticKind+staticBytes("a")+staticSymbol(symbol))
		mustGiveUp(t, "P5: a symbol, ahead of ErrMost", pack(last+staticKind+staticBytes("a")+staticSymbol(symbol), '0'), 1, pouch.ErrData)
		mustGiveUp(t, "P5: ErrMost, ahead of a symbol", pack(last+staticKind+staticBytes("a")+staticSymbol(symbol), '0'), 0, pouch.ErrMost)
	}
	for _, distance := range []int{30, 31} {
		mustGiveUpBehind(t, "a symbol of no distance", last+staticKind+staticBytes("a")+staticSymbol(257)+staticDistance(distance))
		mustGiveUpBehind(t, "a symbol of no distance behind further bits", last+staticKind+staticBytes("a")+staticSymbol(284)+"10101"+staticDistance(distance))
	}
}

func TestDistancesBeyondTheFirstByte(t *testing.T) {
	for _, distance := range []int{9, 12, 13, 100, 1000, 3000, 3073, 4096, 4097, 6145, 8193, 12289, 16385, 24577, 32768} {
		mustGiveUpBehind(t, "a distance beyond the first byte", last+staticKind+staticSymbol(260)+distanceBits(distance))
	}
	for _, length := range []string{staticSymbol(257), staticSymbol(285)} {
		mustGiveUp(t, "P5: a copy of nothing", pack(last+staticKind+length+staticDistance(0), '0'), 0, pouch.ErrData)
	}
}

func TestMoreThanIsWantedNeedsNoFurtherBit(t *testing.T) {
	for shift := range 8 {
		moved := shifted(shift, last+staticKind+staticBytes("a"))
		mustGiveUp(t, "P5: a byte too many", pack(moved, '1'), shift, pouch.ErrMost)
		copied := shifted(shift, last+staticKind+staticBytes("a")+staticSymbol(285)+staticDistance(0))
		data := pack(copied, '0')
		mustGiveUp(t, "P5: a copy too long", data, shift+1, pouch.ErrMost)
		mustGiveUp(t, "P5: a copy by one too long", data, shift+258, pouch.ErrMost)
		mustGiveUp(t, "P5: a copy without its last bits", data[:len(data)-1], shift+1, pouch.ErrEnd)
		if len(copied)%8 == 0 {
			mustGiveUp(t, "P5: a copy, and no end", data, shift+259, pouch.ErrEnd)
		}
	}
}
