package flate

import (
	"iter"
	"slices"
)

// writeLengths writes what stands in a dynamic block ahead of its symbols; readCodes reads it.
func writeLengths(out *writer, symbols, distances []int) {
	symbols = withoutLastZeros(symbols, leastSymbols)
	distances = withoutLastZeros(distances, leastDistances)
	row := slices.Concat(symbols, distances)
	short := shortLengths(row)
	ordered := withoutLastZeros(inShortOrder(short), leastShort)
	out.number(len(symbols)-leastSymbols, 5)
	out.number(len(distances)-leastDistances, 5)
	out.number(len(ordered)-leastShort, 4)
	for _, length := range ordered {
		out.number(length, shortWidth)
	}
	c := newCode(short)
	for m := range runs(row) {
		out.mark(c, m)
	}
}

func withoutLastZeros(lengths []int, least int) []int {
	count := len(lengths)
	for count > least && lengths[count-1] == 0 {
		count--
	}
	return lengths[:count]
}

func shortLengths(row []int) []int {
	counts := make([]int, len(shortOrder))
	for m := range runs(row) {
		counts[m.symbol]++
	}
	return lengthsFor(counts, maxShortBits)
}

func inShortOrder(lengths []int) []int {
	ordered := make([]int, len(shortOrder))
	for i, symbol := range shortOrder {
		ordered[i] = lengths[symbol]
	}
	return ordered
}

// runs goes through a row of lengths as the short code tells them: one by one, or as repetitions.
func runs(row []int) iter.Seq[mark] {
	return func(yield func(mark) bool) {
		for at := 0; at < len(row); {
			m, count := nextRun(row, at)
			if !yield(m) {
				return
			}
			at += count
		}
	}
}

func nextRun(row []int, at int) (mark, int) {
	same := countSame(row[at:])
	switch {
	case row[at] == 0 && same >= 11:
		return repeated(repeatManyZeros, same)
	case row[at] == 0 && same >= 3:
		return repeated(repeatZeros, same)
	case at > 0 && row[at-1] == row[at] && same >= 3:
		return repeated(repeatLast, same)
	}
	return mark{symbol: row[at]}, 1
}

func countSame(row []int) int {
	count := 1
	for count < len(row) && row[count] == row[0] {
		count++
	}
	return count
}

// repeated answers how many lengths the repetition stands for, too: it may be too short for all of them.
func repeated(symbol, times int) (mark, int) {
	width, least := repetition(symbol)
	count := min(times, least+1<<width-1)
	return mark{symbol: symbol, more: count - least, width: width}, count
}
