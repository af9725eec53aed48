package pouch_test

import (
	"math"
	"math/rand"
	"strings"
	"testing"

	"pouch/pouch"
)

// mustInflate holds an answer without an error against what is wanted.
func mustInflate(t *testing.T, about, data string, most int, want string, read int) {
	t.Helper()
	text, n, e := pouch.Inflate(data, most)
	if text != want || n != read || e != pouch.OK {
		t.Errorf("%s: Inflate(%.60q, %d) = %.60q, %d, %d, want %.60q, %d, OK", about, data, most, text, n, e, want, read)
	}
}

// mustGiveUp holds an error against the wanted one; nothing else may be answered with it.
func mustGiveUp(t *testing.T, about, data string, most int, want pouch.Errno) {
	t.Helper()
	text, n, e := pouch.Inflate(data, most)
	if text != "" || n != 0 || e != want {
		t.Errorf("%s: Inflate(%.60q, %d) = %.60q, %d, %d, want nothing and %d", about, data, most, text, n, e, want)
	}
}

// mustUnpack holds to it that bits are a stream of text: whole, with more behind it, and cut short anywhere.
func mustUnpack(t *testing.T, about, bits, text string) {
	t.Helper()
	for _, fill := range []byte{'0', '1'} {
		data := pack(bits, fill)
		mustInflate(t, about, data, 3000, text, len(data))
		mustInflate(t, about, data, len(text), text, len(data))
		mustInflate(t, about, data+"\xff\x07more", 3000, text, len(data))
		for i := range len(data) {
			mustGiveUp(t, about+", cut", data[:i], 3000, pouch.ErrEnd)
		}
		for most := range len(text) {
			mustGiveUp(t, about+", too long", data, most, pouch.ErrMost)
		}
	}
}

func TestInflateArguments(t *testing.T) {
	whole := "\x03\x00"
	padded := whole + strings.Repeat("x", 2998)
	mustInflate(t, "P4: 3000 bytes", padded, 0, "", 2)
	mustInflate(t, "P4: 3000 bytes", padded, 3000, "", 2)
	for _, most := range []int{-1, 3001, math.MinInt, math.MaxInt} {
		mustGiveUp(t, "P4: most", whole, most, pouch.ErrArg)
		mustGiveUp(t, "P4: most, ahead of the stream's errors", "", most, pouch.ErrArg)
		mustGiveUp(t, "P4: length ahead of most", padded+"x", most, pouch.ErrLong)
	}
	mustGiveUp(t, "P4: 3001 bytes", padded+"x", 3000, pouch.ErrLong)
	mustGiveUp(t, "P4: a million bytes", strings.Repeat("\x00", 1000000), 0, pouch.ErrLong)
}

func TestInflateStored(t *testing.T) {
	head := func(length int) string { return number(length, 16) + number(length^0xffff, 16) }
	mustUnpack(t, "P4: stored, empty", last+storedKind+"00000"+head(0), "")
	mustUnpack(t, "P4: stored, bits passed over", last+storedKind+"11111"+head(1)+number('a', 8), "a")
	mustUnpack(t, "P4: stored, twice", going+storedKind+"00000"+head(1)+number(0, 8)+last+storedKind+"01010"+head(2)+number(255, 8)+number(1, 8), "\x00\xff\x01")
	mustUnpack(t, "P4: stored, behind a static block", going+staticKind+staticEnd+last+storedKind+"111"+head(1)+number('b', 8), "b")
	mustUnpack(t, "P4: stored, nothing to pass over", shifted(3, last+storedKind+head(1)+number('c', 8)), "\xff\xff\xffc")
	text := strings.Repeat("0123456789", 299) + "12345"
	mustInflate(t, "P4: all of 3000 bytes", "\x01\xb3\x0b\x4c\xf4"+text, 2995, text, 3000)
	mustGiveUp(t, "P5: more than all", "\x01\xb4\x0b\x4b\xf4"+text, 3000, pouch.ErrEnd)
	mustGiveUp(t, "P5: more than is wanted, ahead of the end", "\x01\xff\xff\x00\x00abc", 2, pouch.ErrMost)
	mustGiveUp(t, "P5: the end, ahead of more than is wanted", "\x01\xff\xff\x00\x00ab", 2, pouch.ErrEnd)
}

func TestInflateStaticBytes(t *testing.T) {
	for b := range 256 {
		mustUnpack(t, "P4: a byte", last+staticKind+staticSymbol(b)+staticEnd, string([]byte{byte(b)}))
	}
}

// lengthRows has for each symbol of lengths the least one, and how many further bits there are.
func lengthRows() [][2]int {
	return [][2]int{
		{3, 0}, {4, 0}, {5, 0}, {6, 0}, {7, 0}, {8, 0}, {9, 0}, {10, 0}, {11, 1}, {13, 1}, {15, 1}, {17, 1}, {19, 2}, {23, 2}, {27, 2}, {31, 2},
		{35, 3}, {43, 3}, {51, 3}, {59, 3}, {67, 4}, {83, 4}, {99, 4}, {115, 4}, {131, 5}, {163, 5}, {195, 5}, {227, 5}, {258, 0},
	}
}

func TestInflateLengths(t *testing.T) {
	for i, row := range lengthRows() {
		for more := range 1 << row[1] {
			bits := last + staticKind + staticBytes("ab") + staticSymbol(257+i) + number(more, row[1]) + staticDistance(0) + staticEnd
			want := "a" + strings.Repeat("b", 1+row[0]+more)
			data := pack(bits, '0')
			mustInflate(t, "P4: a length", data, 3000, want, len(data))
			mustGiveUp(t, "P5: a length", data, len(want)-1, pouch.ErrMost)
		}
	}
}

// distanceBits are the symbol of a distance and its further bits.
func distanceBits(distance int) string {
	least := 1
	for symbol := range 30 {
		width := max(0, symbol/2-1)
		if distance < least+1<<width {
			return staticDistance(symbol) + number(distance-least, width)
		}
		least += 1 << width
	}
	return ""
}

// manyBytes is a text that hardly repeats itself, the same one each time.
func manyBytes(count int) string {
	out := make([]byte, count)
	random := rand.New(rand.NewSource(1))
	for i := range out {
		out[i] = byte(random.Intn(256))
	}
	return string(out)
}

func TestInflateDistances(t *testing.T) {
	for _, told := range []int{1, 2, 3, 4, 5, 6, 7, 8, 9, 12, 13, 16, 17, 24, 25, 32, 33, 48, 49, 64, 65, 96, 97, 128, 129, 192, 193, 256, 257, 384, 385, 512, 513, 768, 769, 1024, 1025, 1536, 1537, 2048, 2049, 2600} {
		text := manyBytes(told)
		ahead := last + staticKind + staticBytes(text) + staticSymbol(258)
		want := text
		for i := range 4 {
			want += want[i : i+1]
		}
		data := pack(ahead+distanceBits(told)+staticEnd, '0')
		mustInflate(t, "P4: the farthest distance", data, 3000, want, len(data))
		near := text + strings.Repeat(text[told-1:], 4)
		data = pack(ahead+distanceBits(1)+staticEnd, '0')
		mustInflate(t, "P4: the nearest distance", data, 3000, near, len(data))
		mustGiveUp(t, "P5: a distance beyond the first byte", pack(ahead+distanceBits(told+1)+staticEnd, '0'), 3000, pouch.ErrData)
		mustGiveUp(t, "P5: the same, ahead of ErrMost", pack(ahead+distanceBits(told+1)+staticEnd, '0'), told, pouch.ErrData)
		mustGiveUp(t, "P5: more than is wanted, ahead of it", pack(ahead+distanceBits(told+1)+staticEnd, '0'), told-1, pouch.ErrMost)
	}
}

func TestInflateCopies(t *testing.T) {
	copyOf := func(length, distance int) string { return staticSymbol(254+length) + distanceBits(distance) }
	mustUnpack(t, "P4: a copy of itself", last+staticKind+staticBytes("abc")+copyOf(7, 3)+staticEnd, "abcabcabca")
	mustUnpack(t, "P4: a copy of a copy", last+staticKind+staticBytes("ab")+copyOf(3, 2)+copyOf(4, 5)+staticEnd, "ababaabab")
	mustUnpack(t, "P4: a copy from an earlier block", going+staticKind+staticBytes("xyz")+staticEnd+last+staticKind+copyOf(3, 3)+staticEnd, "xyzxyz")
	stored := going + storedKind + "00000" + number(3, 16) + number(3^0xffff, 16) + number('p', 8) + number('q', 8) + number('r', 8)
	mustUnpack(t, "P4: a copy from a stored block", stored+last+staticKind+copyOf(4, 3)+staticEnd, "pqrpqrp")
	mustUnpack(t, "P4: 258 the other way", last+staticKind+staticBytes("z")+staticSymbol(284)+number(31, 5)+distanceBits(1)+staticEnd, strings.Repeat("z", 259))
}

func TestInflateDynamic(t *testing.T) {
	symbols := lengthsOf(258, map[int]int{'a': 2, 'b': 2, endSymbol: 2, 257: 2})
	code := words(symbols)
	text := code['a'] + code['b']
	end := code[endSymbol]
	mustUnpack(t, "P4: one distance of one bit", last+dynamicHead(symbols, []int{0, 1})+text+code[257]+"0"+end, "ababa")
	mustUnpack(t, "P4: no distance", last+dynamicHead(symbols, []int{0})+text+end, "ab")
	mustUnpack(t, "P4: two distances", last+dynamicHead(symbols, []int{1, 1})+text+code[257]+"1"+code[257]+"0"+end, "ababaaaa")
	mustUnpack(t, "P4: all distances", last+dynamicHead(symbols, lengthsOf(30, map[int]int{0: 2, 1: 2, 29: 1}))+text+code[257]+"11"+end, "ababa")
	two := going + dynamicHead(symbols, []int{0, 1}) + text + end + last + dynamicHead(symbols, []int{1}) + code['b'] + code[257] + "0" + end
	mustUnpack(t, "P4: two dynamic blocks", two, "abbbbb")
	most := lengthsOf(286, map[int]int{'a': 2, 'b': 2, endSymbol: 2, 285: 2})
	code = words(most)
	mustUnpack(t, "P4: all symbols", last+dynamicHead(most, []int{1})+code['a']+code[285]+"0"+code[endSymbol], strings.Repeat("a", 259))
}

func TestInflateLongCodes(t *testing.T) {
	some := map[int]int{endSymbol: 15}
	want := ""
	for i := range 15 {
		some['a'+i] = i + 1
		want += string(rune('a' + i))
	}
	symbols := lengthsOf(257, some)
	code := words(symbols)
	bits := ""
	for i := range len(want) {
		bits += code[int(want[i])]
	}
	mustUnpack(t, "P4: codes of 1 to 15 bits", last+dynamicHead(symbols, []int{0})+bits+code[endSymbol], want)
}

// The three repetitions of a dynamic block's lengths, each so many times.
func again(times int) string     { return shortWords[16] + number(times-3, 2) }
func fewZeros(times int) string  { return shortWords[17] + number(times-3, 3) }
func manyZeros(times int) string { return shortWords[18] + number(times-11, 7) }

// lengthHead is what stands ahead of the lengths of a dynamic block.
func lengthHead(symbols, distances int) string {
	return last + dynamicKind + countBits(symbols, distances, 19) + shortCode(shortLengths)
}

func TestInflateRepetitions(t *testing.T) {
	zero, one, two, three := shortWords[0], shortWords[1], shortWords[2], shortWords[3]
	for _, c := range []struct{ about, bits, text string }{
		{"18 with the most", lengthHead(257, 1) + two + two + two + manyZeros(138) + manyZeros(115) + two + zero + "00" + "11", "\x00"},
		{"18 with the least", lengthHead(257, 1) + two + two + two + manyZeros(138) + manyZeros(104) + manyZeros(11) + two + zero + "01" + "11", "\x01"},
		{"17 with the most", lengthHead(257, 1) + two + two + two + manyZeros(138) + manyZeros(105) + fewZeros(10) + two + zero + "10" + "11", "\x02"},
		{"17 with the least", lengthHead(257, 1) + two + two + two + manyZeros(138) + manyZeros(112) + fewZeros(3) + two + zero + "00" + "11", "\x00"},
		{"16 with the most", lengthHead(257, 1) + three + again(6) + manyZeros(138) + manyZeros(111) + three + zero + "110" + "111", "\x06"},
		{"16 with the least, to the last symbol", lengthHead(257, 2) + manyZeros(138) + manyZeros(115) + two + again(3) + one + one + "00" + "11", "\xfd"},
		{"16 behind zeros", lengthHead(257, 1) + one + manyZeros(138) + manyZeros(111) + again(6) + one + zero + "0" + "1", "\x00"},
		{"16 from the symbols into the distances", lengthHead(258, 4) + manyZeros(138) + manyZeros(116) + two + two + again(6) + "00" + "01" + "11" + "01" + "10", "\xfe\xff\xfe\xff\xfe"},
		{"18 from the symbols into the distances", lengthHead(260, 30) + one + manyZeros(138) + manyZeros(117) + one + manyZeros(33) + "0" + "1", "\x00"},
		{"18 to the last code", lengthHead(257, 30) + one + manyZeros(138) + manyZeros(117) + one + manyZeros(30) + "0" + "1", "\x00"},
	} {
		mustUnpack(t, "P4: "+c.about, c.bits, c.text)
	}
}

func TestInflateShortCodeOfFewLengths(t *testing.T) {
	// Five lengths: of 16, 17, 18, 0 and 8. All bytes but 0 have codes of 8 bits, and so has the end.
	head := last + dynamicKind + countBits(257, 1, 5) + number(2, 3) + number(0, 3) + number(0, 3) + number(2, 3) + number(1, 3)
	zero, eight, repeat := "10", "0", "11"
	bits := head + zero + strings.Repeat(eight, 4) + strings.Repeat(repeat+number(3, 2), 42) + zero
	mustUnpack(t, "P4: a short code of three", bits+word(0, 8)+word(254, 8)+word(255, 8), "\x01\xff")
}

func TestInflateWhatOthersWrote(t *testing.T) {
	for _, text := range []string{
		"",
		"a",
		"hello, hello, hello",
		strings.Repeat("x", 2900),
		strings.Repeat("abcdefghij", 290),
		strings.Repeat("the first index goes quickest; ", 90),
		manyBytes(2800),
		strings.Repeat(manyBytes(480), 6),
	} {
		for level := -2; level <= 9; level++ {
			data := deflated(t, text, level)
			mustInflate(t, "P4: another's stream", data, 3000, text, len(data))
			mustInflate(t, "P4: another's stream, and more", data+"\x00\xff", len(text), text, len(data))
			for i := 0; i < len(data); i += 1 + len(data)/50 {
				mustGiveUp(t, "P5: another's stream, cut", data[:i], 3000, pouch.ErrEnd)
			}
			mustGiveUp(t, "P5: another's stream without its last byte", data[:len(data)-1], 3000, pouch.ErrEnd)
			if text != "" {
				mustGiveUp(t, "P5: another's stream, too long", data, len(text)-1, pouch.ErrMost)
				mustGiveUp(t, "P5: another's stream, too long", data, 0, pouch.ErrMost)
			}
		}
	}
}

func TestInflateNeverPanics(t *testing.T) {
	random := rand.New(rand.NewSource(2))
	streams := []string{deflated(t, strings.Repeat("abcab", 100)+manyBytes(40), 9), deflated(t, "tensors", 6), manyBytes(60)}
	for range 20000 {
		data := []byte(streams[random.Intn(len(streams))])
		for range 1 + random.Intn(4) {
			data[random.Intn(len(data))] ^= 1 << random.Intn(8)
		}
		most := random.Intn(3001)
		text, n, e := pouch.Inflate(string(data), most)
		switch e {
		case pouch.OK:
			if len(text) > most || n < 1 || n > len(data) {
				t.Errorf("P4: Inflate(%q, %d) = %q, %d", data, most, text, n)
			}
		case pouch.ErrEnd, pouch.ErrData, pouch.ErrMost:
			if text != "" || n != 0 {
				t.Errorf("P1: Inflate(%q, %d) = %q, %d with the error %d", data, most, text, n, e)
			}
		default:
			t.Errorf("P5: Inflate(%q, %d) answers the error %d", data, most, e)
		}
	}
}

func TestAnswersHangOnArgumentsAlone(t *testing.T) {
	good := deflated(t, strings.Repeat("again and ", 30), 9)
	wrong := pack(last+staticKind+staticBytes("ab")+staticSymbol(286), '0')
	want := strings.Repeat("again and ", 30)
	done := make(chan bool)
	for range 8 {
		go func() {
			defer func() { done <- true }()
			for range 50 {
				mustInflate(t, "P2", good, 3000, want, len(good))
				mustGiveUp(t, "P2", wrong, 3000, pouch.ErrData)
				mustGiveUp(t, "P2", good, 299, pouch.ErrMost)
				if n := pouch.Crc("123456789"); n != 3421780262 {
					t.Errorf("P2: Crc = %d", n)
				}
			}
		}()
	}
	for range 8 {
		<-done
	}
}
