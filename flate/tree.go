package flate

import (
	"cmp"
	"slices"
)

// tree is a part of the tree of a code: its symbols, and how often they come.
type tree struct {
	weight  int
	symbols []int
}

// lengthsFor gives each symbol that is counted a code's length, a short one if it comes often, and none above most. Such a code uses up all bits, but for that of no symbol.
func lengthsFor(counts []int, most int) []int {
	for {
		lengths := bestLengths(counts)
		if slices.Max(lengths) <= most {
			return lengths
		}
		// The more alike the counts are, the less deep is the tree.
		counts = halves(counts)
	}
}

// halves never makes a count 0, as its symbol needs a code all the same.
func halves(counts []int) []int {
	out := make([]int, len(counts))
	for i, n := range counts {
		out[i] = (n + 1) / 2
	}
	return out
}

// bestLengths joins the two lightest trees until one is left (Huffman): each time their symbols lie one branch deeper.
func bestLengths(counts []int) []int {
	lengths := make([]int, len(counts))
	trees := leaves(counts)
	for len(trees) > 1 {
		slices.SortStableFunc(trees, func(a, b tree) int { return cmp.Compare(a.weight, b.weight) })
		joined := tree{weight: trees[0].weight + trees[1].weight, symbols: slices.Concat(trees[0].symbols, trees[1].symbols)}
		for _, symbol := range joined.symbols {
			lengths[symbol]++
		}
		trees = append(trees[2:], joined)
	}
	return lengths
}

func leaves(counts []int) []tree {
	var trees []tree
	for symbol, n := range counts {
		if n > 0 {
			trees = append(trees, tree{weight: n, symbols: []int{symbol}})
		}
	}
	if len(trees) == 1 {
		// One code alone would not use up all bits: a second one, which nothing asks for, does.
		other := 0
		if counts[other] > 0 {
			other = 1
		}
		trees = append(trees, tree{symbols: []int{other}})
	}
	return trees
}
