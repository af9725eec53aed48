package pouch_test

import (
	"math"
	"strings"
	"testing"

	"pouch/pouch"
)

func mustTurn(t *testing.T, about, data string, width int, want string, e pouch.Errno) {
	t.Helper()
	if got, f := pouch.Turn(data, width); got != want || f != e {
		t.Errorf("%s: Turn(%.40q, %d) = %.40q, %d, want %.40q, %d", about, data, width, got, f, want, e)
	}
}

// backwards is a text's bytes the other way round.
func backwards(text string) string {
	var b strings.Builder
	for i := len(text) - 1; i >= 0; i-- {
		b.WriteByte(text[i])
	}
	return b.String()
}

func TestTurnEachItem(t *testing.T) {
	mustTurn(t, "P8: by the eye", "abcdef", 1, "abcdef", pouch.OK)
	mustTurn(t, "P8: by the eye", "abcdef", 2, "badcfe", pouch.OK)
	mustTurn(t, "P8: by the eye", "abcdef", 3, "cbafed", pouch.OK)
	mustTurn(t, "P8: by the eye", "abcdef", 6, "fedcba", pouch.OK)
	mustTurn(t, "P8: bytes that are no letters", "\xff\x00\xc3\xa4", 4, "\xa4\xc3\x00\xff", pouch.OK)
	for width := 1; width <= 16; width++ {
		for size := range 65 {
			data := manyBytes(size)
			if size%width != 0 {
				mustTurn(t, "P8: no multiple", data, width, "", pouch.ErrArg)
				continue
			}
			want := ""
			for at := 0; at < size; at += width {
				want += backwards(data[at : at+width])
			}
			mustTurn(t, "P8: whole items", data, width, want, pouch.OK)
			mustTurn(t, "P8: and back again", want, width, data, pouch.OK)
		}
	}
}

func TestTurnArguments(t *testing.T) {
	longest := manyBytes(600)
	mustTurn(t, "P8: 600 bytes", longest, 1, longest, pouch.OK)
	mustTurn(t, "P8: 600 bytes, no multiple", longest, 16, "", pouch.ErrArg)
	if turned, e := pouch.Turn(longest, 15); len(turned) != 600 || e != pouch.OK || turned[:15] != backwards(longest[:15]) || turned[585:] != backwards(longest[585:]) {
		t.Errorf("P8: 600 bytes, 15: %.40q, %d", turned, e)
	}
	for _, width := range []int{0, -1, -2, -16, 17, 18, 32, 600, math.MaxInt, math.MinInt, 1<<32 + 1} {
		mustTurn(t, "P8: width", "", width, "", pouch.ErrArg)
		mustTurn(t, "P8: width", "abcdef", width, "", pouch.ErrArg)
		mustTurn(t, "P8: width", manyBytes(544), width, "", pouch.ErrArg)
		mustTurn(t, "P8: length ahead of width", longest+"x", width, "", pouch.ErrLong)
	}
	for _, width := range []int{1, 2, 16} {
		mustTurn(t, "P8: nothing", "", width, "", pouch.OK)
		mustTurn(t, "P8: 601 bytes", longest+"x", width, "", pouch.ErrLong)
		mustTurn(t, "P8: a million bytes", strings.Repeat("ab", 500000), width, "", pouch.ErrLong)
	}
}
