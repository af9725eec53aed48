package crc

import (
	"hash/crc32"
	"testing"
)

func TestStartUpMadeTheSums(t *testing.T) {
	for i, sum := range sums {
		if want := halve(uint32(i), 4); sum != want {
			t.Errorf("the sum number %d is %#x, want %#x", i, sum, want)
		}
	}
	if sums[1] != 0x1db71064 || sums[8] != polynomial {
		t.Errorf("the sums 1 and 8 are %#x and %#x", sums[1], sums[8])
	}
}

func TestSum(t *testing.T) {
	text := ""
	for i := range 1000 {
		if got, want := Sum(text), crc32.ChecksumIEEE([]byte(text)); got != want {
			t.Errorf("P3: Sum of %d bytes is %#x, want %#x", len(text), got, want)
		}
		text += string([]byte{byte(i * 37)})
	}
}
