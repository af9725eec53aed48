package flate

import (
	"errors"
	"slices"
	"testing"
)

func TestStartUpMadeTheFixedCodes(t *testing.T) {
	symbols := []span{{8, 0b00110000, 0, 144}, {9, 0b110010000, 144, 112}, {7, 0, 256, 24}, {8, 0b11000000, 280, 8}}
	if !slices.Equal(fixed.symbols.spans, symbols) {
		t.Errorf("the fixed code of symbols is %v, want %v", fixed.symbols.spans, symbols)
	}
	distances := []span{{5, 0, 0, 32}}
	if !slices.Equal(fixed.distances.spans, distances) {
		t.Errorf("the fixed code of distances is %v, want %v", fixed.distances.spans, distances)
	}
}

func TestNewCode(t *testing.T) {
	// The example of RFC 1951, 3.2.2.
	want := []span{{3, 0b010, 0, 5}, {2, 0b00, 5, 1}, {4, 0b1110, 6, 2}}
	if got := newCode([]int{3, 3, 3, 3, 3, 2, 4, 4}); !slices.Equal(got.spans, want) {
		t.Errorf("the code is %v, want %v", got.spans, want)
	}
	want = []span{{2, 0b10, 0, 1}, {1, 0, 2, 1}, {2, 0b11, 4, 1}}
	if got := newCode([]int{2, 0, 1, 0, 2}); !slices.Equal(got.spans, want) {
		t.Errorf("the code is %v, want %v", got.spans, want)
	}
	if got := newCode([]int{0, 0}); len(got.spans) != 0 {
		t.Errorf("the code of nothing is %v", got.spans)
	}
}

func TestUsesAllBits(t *testing.T) {
	for _, c := range []struct {
		lengths []int
		all     bool
		few     bool
	}{
		{nil, false, true},
		{[]int{0, 0}, false, true},
		{[]int{1}, false, true},
		{[]int{0, 1, 0}, false, true},
		{[]int{2}, false, false},
		{[]int{1, 1}, true, false},
		{[]int{1, 2}, false, false},
		{[]int{1, 2, 2}, true, false},
		{[]int{1, 1, 1}, false, false},
		{[]int{1, 1, 15}, false, false},
		{slices.Repeat([]int{8}, 256), true, false},
		{[]int{1, 2, 3, 4, 5, 6, 7, 8, 9, 10, 11, 12, 13, 14, 15, 15}, true, false},
		{[]int{1, 2, 3, 4, 5, 6, 7, 8, 9, 10, 11, 12, 13, 14, 15}, false, false},
	} {
		if all, few := usesAllBits(c.lengths), isOneBitOrNone(c.lengths); all != c.all || few != c.few {
			t.Errorf("the lengths %v: %t, %t, want %t, %t", c.lengths, all, few, c.all, c.few)
		}
	}
}

func TestErrorsWrapOneAnother(t *testing.T) {
	for _, c := range []struct {
		data  string
		most  int
		rule  error
		block int
	}{
		{"", 0, ErrEnd, 0},
		{"\x00\x00\x00\xff\xff", 0, ErrEnd, 1},
		{"K\x04\x00", 0, ErrMost, 0},
		{"\x00\x00\x00\xff\xff\x01\x01\x00\xfe\xffa", 0, ErrMost, 1},
		{"\x07", 0, errKind, 0},
		{"\x00\x00\x00\xff\xff\x06", 0, errKind, 1},
		{"\x01\x00\x00\x00\x00", 0, errComplement, 0},
		{"\xfd\x00\x00", 0, errManyCodes, 0},
		{"\x05\x00\x00\x00\x00", 0, errShortCode, 0},
		{"\x1b\x03", 0, errSymbol, 0},
		{"\x03\x7e", 0, errDistance, 0},
		{"\x03\x02", 0, errFar, 0},
	} {
		text, read, err := Inflate(c.data, c.most)
		if text != "" || read != 0 || !errors.Is(err, c.rule) {
			t.Errorf("Inflate(%q, %d) = %q, %d, %v, want %v", c.data, c.most, text, read, err, c.rule)
			continue
		}
		var block *BlockError
		if !errors.As(err, &block) || block.Number != c.block {
			t.Errorf("Inflate(%q, %d): %v, want the block %d", c.data, c.most, err, c.block)
		}
		var data *DataError
		if isData := errors.As(err, &data); isData != (c.rule != ErrEnd && c.rule != ErrMost) {
			t.Errorf("Inflate(%q, %d): %v, a DataError: %t", c.data, c.most, err, isData)
		}
	}
}

func TestErrorTexts(t *testing.T) {
	_, _, err := Inflate("\x00\x00\x00\xff\xff\x07", 0)
	if err == nil || err.Error() != "block 1: no DEFLATE stream: a block of kind 3" {
		t.Errorf("the error's text: %v", err)
	}
}
