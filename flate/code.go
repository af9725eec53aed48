package flate

// How long a code may be, and how long a short one: a length of the short code is told in shortWidth bits.
const (
	maxCodeBits  = 15
	maxShortBits = 1<<shortWidth - 1
	shortWidth   = 3
)

// span is a row of symbols that follow one another and have codes of one length: these follow one another, too.
type span struct {
	length int
	code   int
	symbol int
	count  int
}

// code is a prefix code. As spans the codes that stand for themselves are a handful of numbers.
type code struct {
	spans []span
}

// newCode gives each symbol its code by the lengths alone (RFC 1951, 3.2.2); the length 0 gives none.
func newCode(lengths []int) code {
	next := firstCodes(lengths)
	var c code
	for symbol, length := range lengths {
		if length == 0 {
			continue
		}
		c.add(symbol, length, next[length])
		next[length]++
	}
	return c
}

func firstCodes(lengths []int) [maxCodeBits + 1]int {
	var counts, first [maxCodeBits + 1]int
	for _, length := range lengths {
		if length > 0 {
			counts[length]++
		}
	}
	for length := 1; length <= maxCodeBits; length++ {
		first[length] = (first[length-1] + counts[length-1]) * 2
	}
	return first
}

func (c *code) add(symbol, length, word int) {
	last := len(c.spans) - 1
	if last >= 0 && c.spans[last].length == length && c.spans[last].symbol+c.spans[last].count == symbol {
		c.spans[last].count++
		return
	}
	c.spans = append(c.spans, span{length: length, code: word, symbol: symbol, count: 1})
}

// read goes on to the longest length there may be, even if no code is that long: only then is it sure that the bits are none.
func (c code) read(in *reader) (int, error) {
	word := 0
	for length := 1; length <= maxCodeBits; length++ {
		bit, err := in.bit()
		if err != nil {
			return 0, err
		}
		word = word*2 + bit
		symbol, found := c.find(word, length)
		if found {
			return symbol, nil
		}
	}
	return 0, broken(errNoCode)
}

func (c code) find(word, length int) (int, bool) {
	for _, s := range c.spans {
		if s.length == length && word >= s.code && word < s.code+s.count {
			return s.symbol + word - s.code, true
		}
	}
	return 0, false
}

// word is what find finds the symbol by; a symbol that has no code is never asked for.
func (c code) word(symbol int) (word, length int) {
	for _, s := range c.spans {
		if symbol >= s.symbol && symbol < s.symbol+s.count {
			return s.code + symbol - s.symbol, s.length
		}
	}
	return 0, 0
}

// usesAllBits adds up which part of all words of maxCodeBits bits begin with a code.
func usesAllBits(lengths []int) bool {
	words := 0
	for _, length := range lengths {
		if length > 0 {
			words += 1 << (maxCodeBits - length)
		}
	}
	return words == 1<<maxCodeBits
}

// isOneBitOrNone tells whether the code is one code of one bit, or none at all.
func isOneBitOrNone(lengths []int) bool {
	sum := 0
	for _, length := range lengths {
		sum += length
	}
	return sum <= 1
}
