package pouch_test

import (
	"hash/crc32"
	"strings"
	"testing"

	"pouch/pouch"
)

// sumByPromise does what P3 says, step by step.
func sumByPromise(data string) int {
	n := 1<<32 - 1
	for i := range len(data) {
		n ^= int(data[i])
		for range 8 {
			odd := n%2 == 1
			n /= 2
			if odd {
				n ^= 0xedb88320
			}
		}
	}
	return 1<<32 - 1 - n
}

func TestCrcOfKnownTexts(t *testing.T) {
	for _, c := range []struct {
		data string
		want int
	}{
		{"", 0},
		{"123456789", 3421780262},
		{"a", 0xe8b7be43},
		{"\x00", 0xd202ef8d},
		{"\xff", 0xff000000},
		{"The quick brown fox jumps over the lazy dog", 0x414fa339},
	} {
		if got := pouch.Crc(c.data); got != c.want {
			t.Errorf("P3: Crc(%q) = %d, want %d", c.data, got, c.want)
		}
	}
}

func TestCrcOfEachByte(t *testing.T) {
	for b := range 256 {
		for _, data := range []string{string([]byte{byte(b)}), string([]byte{byte(b), 7}), string([]byte{0x80, byte(b)})} {
			if got, want := pouch.Crc(data), sumByPromise(data); got != want {
				t.Errorf("P3: Crc(%q) = %d, want %d", data, got, want)
			}
		}
	}
}

func TestCrcOfLongTexts(t *testing.T) {
	for _, data := range []string{
		strings.Repeat("\x00", 3001),
		strings.Repeat("\xff", 5000),
		strings.Repeat("pouch \x80é", 20000),
	} {
		if got, want := pouch.Crc(data), int(crc32.ChecksumIEEE([]byte(data))); got != want {
			t.Errorf("P3: Crc of %d bytes = %d, want %d", len(data), got, want)
		}
	}
}
