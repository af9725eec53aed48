// Package number knows how numbers stand in files: with their lowest byte first.
package number

const bitsOfByte = 8

// Bytes writes the numbers one behind the other, each in so many bytes.
func Bytes(size int, numbers ...uint64) string {
	var out []byte
	for _, n := range numbers {
		for range size {
			out = append(out, byte(n))
			n >>= bitsOfByte
		}
	}
	return string(out)
}

// Of reads a number; four bytes may stand for one that a small int does not hold.
func Of(data string) uint64 {
	var n uint64
	for i := range len(data) {
		n |= uint64(data[i]) << (bitsOfByte * i)
	}
	return n
}
