// Package crc sums bytes up.
package crc

const (
	polynomial = 0xedb88320
	halfByte   = 4
)

// sums tells what each half of a byte leaves behind; a table of whole bytes would be sixteen times as long and save but one step a byte.
var sums [1 << halfByte]uint32

func init() {
	for i := range sums {
		sums[i] = halve(uint32(i), halfByte)
	}
}

func halve(n uint32, times int) uint32 {
	for range times {
		odd := n&1 == 1
		n >>= 1
		if odd {
			n ^= polynomial
		}
	}
	return n
}

// Sum is the CRC-32 of the bytes.
func Sum(data string) uint32 {
	n := ^uint32(0)
	for i := range len(data) {
		n ^= uint32(data[i])
		n = halfStep(n)
		n = halfStep(n)
	}
	return ^n
}

func halfStep(n uint32) uint32 {
	return sums[n&(1<<halfByte-1)] ^ n>>halfByte
}
