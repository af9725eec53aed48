package flate

import "slices"

const (
	endOfBlock  = 256
	firstLength = 257
)

// How many lengths a dynamic block tells, of each of its codes.
const (
	leastSymbols   = 257
	mostSymbols    = 286
	leastDistances = 1
	mostDistances  = 30
	leastShort     = 4
)

// The symbols of the short code that are repetitions.
const (
	repeatLast      = 16
	repeatZeros     = 17
	repeatManyZeros = 18
)

// shortOrder is the order in which the lengths of the short code stand (RFC 1951, 3.2.7).
var shortOrder = [19]int{16, 17, 18, 0, 8, 7, 9, 6, 10, 5, 11, 4, 12, 3, 13, 2, 14, 1, 15}

// codes are those of a block: of bytes, lengths and its end, and of distances.
type codes struct {
	symbols   code
	distances code
}

// fixed are the codes that stand for themselves: made at start-up, as any block may ask for them.
var fixed codes

func init() {
	lengths := slices.Concat(
		slices.Repeat([]int{8}, 144),
		slices.Repeat([]int{9}, 112),
		slices.Repeat([]int{7}, 24),
		slices.Repeat([]int{8}, 8),
	)
	fixed = codes{symbols: newCode(lengths), distances: newCode(slices.Repeat([]int{5}, 32))}
}

// counts are the three numbers that a dynamic block begins with.
type counts struct {
	symbols   int
	distances int
	short     int
}

func readCodes(in *reader) (codes, error) {
	n, err := readCounts(in)
	if err != nil {
		return codes{}, err
	}
	short, err := readShortCode(in, n.short)
	if err != nil {
		return codes{}, err
	}
	lengths, err := readLengths(in, short, n.symbols+n.distances)
	if err != nil {
		return codes{}, err
	}
	return makeCodes(lengths[:n.symbols], lengths[n.symbols:])
}

func readCounts(in *reader) (counts, error) {
	symbols, err := in.number(5)
	if err != nil {
		return counts{}, err
	}
	distances, err := in.number(5)
	if err != nil {
		return counts{}, err
	}
	short, err := in.number(4)
	if err != nil {
		return counts{}, err
	}
	n := counts{symbols: symbols + leastSymbols, distances: distances + leastDistances, short: short + leastShort}
	if n.symbols > mostSymbols || n.distances > mostDistances {
		return counts{}, broken(errManyCodes)
	}
	return n, nil
}

func readShortCode(in *reader, count int) (code, error) {
	lengths := make([]int, len(shortOrder))
	for i := range count {
		length, err := in.number(shortWidth)
		if err != nil {
			return code{}, err
		}
		lengths[shortOrder[i]] = length
	}
	if !usesAllBits(lengths) {
		return code{}, broken(errShortCode)
	}
	return newCode(lengths), nil
}

// readLengths reads the lengths of both codes as one row, for a repetition may go from one into the other.
func readLengths(in *reader, short code, count int) ([]int, error) {
	lengths := make([]int, 0, count)
	for len(lengths) < count {
		symbol, err := short.read(in)
		if err != nil {
			return nil, err
		}
		if symbol < repeatLast {
			lengths = append(lengths, symbol)
			continue
		}
		again, err := readRepetition(in, symbol, lengths)
		if err != nil {
			return nil, err
		}
		if len(lengths)+len(again) > count {
			return nil, broken(errBeyond)
		}
		lengths = append(lengths, again...)
	}
	return lengths, nil
}

func readRepetition(in *reader, symbol int, lengths []int) ([]int, error) {
	width, least := repetition(symbol)
	more, err := in.number(width)
	if err != nil {
		return nil, err
	}
	length := 0
	if symbol == repeatLast {
		if len(lengths) == 0 {
			return nil, broken(errNothing)
		}
		length = lengths[len(lengths)-1]
	}
	return slices.Repeat([]int{length}, least+more), nil
}

// repetition tells how many bits stand behind a repetition's symbol, and how often it repeats at least.
func repetition(symbol int) (width, least int) {
	switch symbol {
	case repeatLast:
		return 2, 3
	case repeatZeros:
		return 3, 3
	}
	return 7, 11
}

func makeCodes(symbols, distances []int) (codes, error) {
	if symbols[endOfBlock] == 0 {
		return codes{}, broken(errNoEnd)
	}
	if !usesAllBits(symbols) {
		return codes{}, broken(errSymbols)
	}
	if !usesAllBits(distances) && !isOneBitOrNone(distances) {
		return codes{}, broken(errDistances)
	}
	return codes{symbols: newCode(symbols), distances: newCode(distances)}, nil
}
