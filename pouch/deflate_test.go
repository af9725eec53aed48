package pouch_test

import (
	"compress/flate"
	"io"
	"math"
	"math/rand"
	"strings"
	"testing"

	"pouch/pouch"
)

// mustDeflate answers a stream that is held against P6's sentence on all of them: Inflate reads all of it, and it stands for the text.
func mustDeflate(t *testing.T, about, text string, level int) string {
	t.Helper()
	data, e := pouch.Deflate(text, level)
	if e != pouch.OK {
		t.Errorf("%s: Deflate of %d bytes %.40q, %d: the error %d", about, len(text), text, level, e)
		return ""
	}
	mustInflate(t, about, data, len(text), text, len(data))
	return data
}

// mustPack holds a text against all that P6 says of any text, and answers how long its streams are.
func mustPack(t *testing.T, about, text string) [3]int {
	t.Helper()
	var sizes [3]int
	for level := range sizes {
		sizes[level] = len(mustDeflate(t, about, text, level))
	}
	if sizes[0] != len(text)+5 {
		t.Errorf("%s: %d bytes %.40q have at level 0 %d bytes", about, len(text), text, sizes[0])
	}
	if sizes[1] > sizes[0] || sizes[2] > sizes[1] {
		t.Errorf("%s: %d bytes %.40q have at the levels %v bytes", about, len(text), text, sizes)
	}
	return sizes
}

func mustRefuse(t *testing.T, about, text string, level int, want pouch.Errno) {
	t.Helper()
	data, e := pouch.Deflate(text, level)
	if data != "" || e != want {
		t.Errorf("%s: Deflate of %d bytes, %d = %.40q, %d, want nothing and %d", about, len(text), level, data, e, want)
	}
}

// someBytes is a text of bytes that are picked from kinds, the same one each time.
func someBytes(seed int64, count int, kinds string) string {
	random := rand.New(rand.NewSource(seed))
	out := make([]byte, count)
	for i := range out {
		out[i] = kinds[random.Intn(len(kinds))]
	}
	return string(out)
}

// row has each byte from first to last.
func row(first, last int) string {
	var b strings.Builder
	for i := first; i <= last; i++ {
		b.WriteByte(byte(i))
	}
	return b.String()
}

func TestDeflateArguments(t *testing.T) {
	longest := manyBytes(600)
	for level := range 3 {
		mustDeflate(t, "P6: 600 bytes", longest, level)
		mustDeflate(t, "P6: no bytes", "", level)
		mustRefuse(t, "P6: 601 bytes", longest+"x", level, pouch.ErrLong)
		mustRefuse(t, "P6: 601 bytes that are the same", strings.Repeat("a", 601), level, pouch.ErrLong)
		mustRefuse(t, "P6: a million bytes", strings.Repeat("ab", 500000), level, pouch.ErrLong)
	}
	for _, level := range []int{-1, 3, 4, 9, math.MinInt, math.MaxInt} {
		mustRefuse(t, "P6: level", "", level, pouch.ErrArg)
		mustRefuse(t, "P6: level", "abc", level, pouch.ErrArg)
		mustRefuse(t, "P6: level", longest, level, pouch.ErrArg)
		mustRefuse(t, "P6: length ahead of level", longest+"x", level, pouch.ErrLong)
	}
}

func TestDeflateLevelZero(t *testing.T) {
	for _, size := range []int{0, 1, 2, 3, 255, 256, 257, 511, 512, 599, 600} {
		for _, text := range []string{manyBytes(size), strings.Repeat("a", size)} {
			data := mustDeflate(t, "P6: level 0", text, 0)
			want := string([]byte{byte(size), byte(size >> 8), ^byte(size), ^byte(size >> 8)}) + text
			if len(data) != size+5 || data[0]&7 != 1 || data[1:] != want {
				t.Errorf("P6: level 0 of %d bytes is no stored block that is the last one: %.40q", size, data)
			}
		}
	}
}

func TestDeflateSameBytes(t *testing.T) {
	for size := range 601 {
		for _, b := range []string{"\x00", "a", "\x8f", "\x90", "\xff"} {
			text := strings.Repeat(b, size)
			sizes := mustPack(t, "P6: the same byte", text)
			if sizes[1] > 16 || sizes[2] > 16 {
				t.Errorf("P6: %d bytes %q that are the same have %v bytes", size, b, sizes)
			}
		}
	}
}

func TestDeflateTextsTwice(t *testing.T) {
	kinds := []string{row(0, 255), row(144, 255), row(0, 143), "ab", "abc\xff", row(200, 220), "\xfe\xff"}
	for size := 3; size <= 258; size++ {
		texts := []string{row(0, 255)[:min(size, 256)], strings.Repeat("xyz", 86)[:size], strings.Repeat(row(150, 249), 3)[:size]}
		for i, k := range kinds {
			texts = append(texts, someBytes(int64(size*10+i), size, k))
		}
		for _, text := range texts {
			once := mustPack(t, "P6: a text", text)
			twice := mustPack(t, "P6: a text twice", text+text)
			if twice[1] > once[1]+40 {
				t.Errorf("P6: %d bytes %.40q have at level 1 %d bytes, and twice %d", size, text, once[1], twice[1])
			}
		}
	}
}

func TestDeflateSixteenKinds(t *testing.T) {
	far := ""
	for i := range 16 {
		far += string([]byte{byte(i*17 + i%2)})
	}
	kinds := []string{"a", "\x00\xff", "abc", row(0, 15), row(240, 255), far, far[:15], far[:9], far[3:8] + strings.Repeat("\x05", 30), far + strings.Repeat(far[:4], 9)}
	sizes := []int{0, 1, 2, 15, 16, 17, 50, 161, 162, 163, 300, 599, 600}
	for i, k := range kinds {
		for _, size := range sizes {
			text := someBytes(int64(i*1000+size), size, k)
			packed := mustPack(t, "P6: 16 kinds", text)
			if packed[2] > size/2+80 {
				t.Errorf("P6: %d bytes of at most 16 kinds %.40q have at level 2 %d bytes", size, text, packed[2])
			}
		}
	}
}

// In these many short copies are to be found, none of which saves much.
func TestDeflateSixteenKindsWithCopies(t *testing.T) {
	kinds := "\x03\x14\x25\x36\x47\x58\x69\x7a\x8b\x9c\xad\xbe\xcf\xd0\xe1\xf2"
	random := rand.New(rand.NewSource(6))
	for _, length := range []int{3, 4, 5, 7} {
		text := someBytes(int64(length), 300, kinds)
		for len(text) < 600 {
			from := random.Intn(len(text) - length)
			text += text[from:from+length] + kinds[random.Intn(16):][:1]
		}
		text = text[:600]
		if packed := mustPack(t, "P6: copies of few bytes", text); packed[2] > 380 {
			t.Errorf("P6: 600 bytes of 16 kinds with copies of %d bytes have at level 2 %d bytes", length, packed[2])
		}
	}
}

func TestDeflateAnyText(t *testing.T) {
	mustPack(t, "P6: all bytes", row(0, 255))
	mustPack(t, "P6: all bytes, and many again", row(0, 255)+row(0, 255)+row(0, 87))
	mustPack(t, "P6: the last bytes", row(144, 255))
	for b := range 256 {
		mustPack(t, "P6: one byte", row(b, b))
		mustPack(t, "P6: two bytes", row(b, b)+"\x00")
	}
	for length := 1; length <= 300; length++ {
		text := manyBytes(length)
		mustPack(t, "P6: a text twice", text+text)
		mustPack(t, "P6: one byte again and again behind another", "b"+strings.Repeat("a", length)+"b")
		mustPack(t, "P6: what is far away", text+strings.Repeat("z", 290)+text[:min(length, 10)])
	}
	random := rand.New(rand.NewSource(7))
	for range 1000 {
		first := random.Intn(256)
		kinds := row(first, first+random.Intn(256-first))
		mustPack(t, "P6: any text", someBytes(random.Int63(), random.Intn(601), kinds))
	}
}

// doublings has bytes whose counts lie far apart, so that codes of many lengths are needed.
func doublings() string {
	text := ""
	count := 1
	for i := range 9 {
		text += strings.Repeat(string([]byte{byte(i * 28)}), count)
		count *= 2
	}
	shuffled := []byte(text)
	rand.New(rand.NewSource(8)).Shuffle(len(shuffled), func(i, j int) { shuffled[i], shuffled[j] = shuffled[j], shuffled[i] })
	return string(shuffled)
}

const letter = "A tensor is a kind, a shape, whether the first index goes quickest, and the bytes of the items, which are as many as the shape has items times the width. " +
	"A shape is at most four numbers; it has as many items as their product. A name is one to twelve bytes. An archive is its members' parts, one behind the other; then their entries, in the same order; then an end."

func TestDeflatePacks(t *testing.T) {
	for _, c := range []struct {
		text  string
		level int
		most  int
	}{
		{"", 1, 2},
		{"", 2, 2},
		{"a", 1, 3},
		{strings.Repeat("the first index goes quickest; ", 19), 1, 60},
		{strings.Repeat("abc", 200), 1, 13},
		{manyBytes(300) + manyBytes(300), 2, 351},
		{doublings(), 2, 200},
		{strings.Repeat("zebras graze; ", 4) + strings.Repeat("lazy zebras gaze; ", 20), 2, 45},
		{strings.Repeat(someBytes(11, 300, row(200, 215)), 2), 2, 215},
		{letter, 1, 275},
		{letter, 2, 215},
	} {
		if data := mustDeflate(t, "P6: ordinary", c.text, c.level); len(data) > c.most {
			t.Errorf("P6: %d bytes %.40q have at level %d %d bytes, which is more than %d", len(c.text), c.text, c.level, len(data), c.most)
		}
	}
}

// Another program must read the streams, too, and find their end where it is.
func TestDeflateForOthers(t *testing.T) {
	for _, text := range []string{"", "a", "\xff\x00", strings.Repeat("a", 600), manyBytes(600), doublings(), strings.Repeat("0123456789", 60), row(0, 255), someBytes(9, 600, "abcdefghijklmnop")} {
		for level := range 3 {
			data := mustDeflate(t, "P6: for others", text, level)
			behind := strings.NewReader(data + "behind")
			told, err := io.ReadAll(flate.NewReader(behind))
			rest, _ := io.ReadAll(behind)
			if err != nil || string(told) != text || string(rest) != "behind" {
				t.Errorf("P6: another program reads %.40q, %v, and leaves %q of what Deflate made of %d bytes %.40q at level %d", told, err, rest, len(text), text, level)
			}
			for i := range len(data) {
				mustGiveUp(t, "P5: cut", data[:i], 600, pouch.ErrEnd)
			}
		}
	}
}

func TestDeflateHangsOnArgumentsAlone(t *testing.T) {
	text := someBytes(10, 500, row(60, 120))
	var want [3]string
	for level := range want {
		want[level] = mustDeflate(t, "P2", text, level)
	}
	done := make(chan bool)
	for range 4 {
		go func() {
			defer func() { done <- true }()
			for i := range 30 {
				mustDeflate(t, "P2", strings.Repeat("other", i), i%3)
				if data, e := pouch.Deflate(text, i%3); data != want[i%3] || e != pouch.OK {
					t.Errorf("P2: Deflate at level %d answers something else", i%3)
				}
			}
		}()
	}
	for range 4 {
		<-done
	}
}
