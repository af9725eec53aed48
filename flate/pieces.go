package flate

import "iter"

const (
	leastCopy = 3
	mostCopy  = 258
	noCopy    = mostCopy + 1
)

// piece is a byte of a text, or, if it has a length, a copy of what stands so far ahead of it.
type piece struct {
	single   byte
	length   int
	distance int
}

func (p piece) isCopy() bool {
	return p.length > 0
}

// mark is the piece's symbol among bytes and lengths.
func (p piece) mark() mark {
	if p.isCopy() {
		return lengthMark(p.length)
	}
	return mark{symbol: int(p.single)}
}

// pieces goes through a text by bytes and by copies of at least least bytes: with noCopy by bytes alone.
func pieces(text string, least int) iter.Seq[piece] {
	return func(yield func(piece) bool) {
		for at := 0; at < len(text); {
			p, size := nextPiece(text, at, least)
			if !yield(p) {
				return
			}
			at += size
		}
	}
}

func nextPiece(text string, at, least int) (piece, int) {
	if least <= mostCopy {
		length, distance := longestCopy(text, at)
		if length >= least {
			return piece{length: length, distance: distance}, length
		}
	}
	return piece{single: text[at]}, 1
}

// longestCopy takes the nearest of several that are as long, as fewer bits tell its distance.
func longestCopy(text string, at int) (length, distance int) {
	for d := 1; d <= at; d++ {
		n := sameBytes(text, at, d)
		if n > length {
			length, distance = n, d
		}
	}
	return length, distance
}

func sameBytes(text string, at, distance int) int {
	n := 0
	for n < mostCopy && at+n < len(text) && text[at+n] == text[at+n-distance] {
		n++
	}
	return n
}

func lengthMark(length int) mark {
	row := len(lengthLeast) - 1
	for lengthLeast[row] > length {
		row--
	}
	return mark{symbol: firstLength + row, more: length - lengthLeast[row], width: lengthBits[row]}
}

func distanceMark(distance int) mark {
	row := len(distanceLeast) - 1
	for distanceLeast[row] > distance {
		row--
	}
	return mark{symbol: row, more: distance - distanceLeast[row], width: distanceBits[row]}
}
