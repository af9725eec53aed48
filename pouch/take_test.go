package pouch_test

import (
	"math"
	"math/big"
	"math/rand"
	"slices"
	"strings"
	"testing"

	"pouch/pouch"
)

// taking is what Take is handed.
type taking struct {
	data    string
	width   int
	from    int
	shape   []int
	strides []int
	fortran bool
}

// take holds to it that no list is changed (P2).
func take(t *testing.T, about string, c taking) (string, pouch.Errno) {
	t.Helper()
	shape, strides := slices.Clone(c.shape), slices.Clone(c.strides)
	items, e := pouch.Take(c.data, c.width, c.from, shape, strides, c.fortran)
	if !slices.Equal(shape, c.shape) || !slices.Equal(strides, c.strides) {
		t.Errorf("%s: Take(%.40q, %d, %d, %v, %v, %t) changed its lists", about, c.data, c.width, c.from, c.shape, c.strides, c.fortran)
	}
	return items, e
}

func mustTake(t *testing.T, about string, c taking, want string) {
	t.Helper()
	if items, e := take(t, about, c); items != want || e != pouch.OK {
		t.Errorf("%s: Take(%.40q, %d, %d, %v, %v, %t) = %.40q, %d, want %.40q, OK", about, c.data, c.width, c.from, c.shape, c.strides, c.fortran, items, e, want)
	}
}

func mustNotTake(t *testing.T, about string, c taking, want pouch.Errno) {
	t.Helper()
	for _, fortran := range []bool{false, true} {
		c.fortran = fortran
		if items, e := take(t, about, c); items != "" || e != want {
			t.Errorf("%s: Take(%.40q, %d, %d, %v, %v, %t) = %.40q, %d, want nothing and %d", about, c.data, c.width, c.from, c.shape, c.strides, c.fortran, items, e, want)
		}
	}
}

// mustTakeBoth is for views whose items stand in the same order either way.
func mustTakeBoth(t *testing.T, about string, c taking, want string) {
	t.Helper()
	for _, fortran := range []bool{false, true} {
		c.fortran = fortran
		mustTake(t, about, c, want)
	}
}

// anyNumbers are numbers that a sum or a product may carry round.
func anyNumbers() []int {
	return []int{0, 1, -1, 600, -600, 601, -601, 1 << 31, -1 << 31, 1 << 32, 1 << 61, 1 << 62, -1 << 62, math.MaxInt, math.MaxInt - 1, math.MinInt, math.MinInt + 1}
}

func TestTakeLength(t *testing.T) {
	longest := manyBytes(600)
	mustTakeBoth(t, "P7: 600 bytes", taking{longest, 1, 0, []int{600}, []int{1}, false}, longest)
	for _, long := range []string{longest + "x", strings.Repeat("a", 601), strings.Repeat("ab", 500000)} {
		mustNotTake(t, "P7: too long", taking{long, 1, 0, []int{2}, []int{1}, false}, pouch.ErrLong)
		mustNotTake(t, "P7: too long, without items", taking{long, 1, 0, []int{0}, []int{1}, false}, pouch.ErrLong)
		mustNotTake(t, "P7: too long, ahead of a wrong view", taking{long, 0, -1, []int{-1}, nil, false}, pouch.ErrLong)
	}
}

func TestTakeShape(t *testing.T) {
	mustTakeBoth(t, "P7: no numbers are one item", taking{"abc", 2, 1, nil, nil, false}, "bc")
	mustTakeBoth(t, "P7: no numbers are one item", taking{"abc", 3, 0, []int{}, []int{}, false}, "abc")
	mustTakeBoth(t, "P7: one of each", taking{"abc", 1, 2, []int{1, 1, 1, 1}, []int{7, 8, 9, 10}, false}, "c")
	mustTakeBoth(t, "P7: 0 items", taking{"abc", 1, 0, []int{9999, 9999, 9999, 0}, []int{1, 1, 1, 1}, false}, "")
	mustTakeBoth(t, "P7: 0 items", taking{"abc", 16, 0, []int{0, 9999, 9999, 9999}, []int{1, 1, 1, 1}, false}, "")
	mustNotTake(t, "P7: five numbers", taking{"abc", 1, 0, []int{1, 1, 1, 1, 1}, []int{1, 1, 1, 1, 1}, false}, pouch.ErrView)
	mustNotTake(t, "P7: five numbers, no items", taking{"abc", 1, 0, []int{0, 0, 0, 0, 0}, []int{1, 1, 1, 1, 1}, false}, pouch.ErrView)
	mustNotTake(t, "P7: many numbers", taking{"abc", 1, 0, make([]int, 100000), make([]int, 100000), false}, pouch.ErrView)
	for _, wrong := range []int{-1, -2, -9999, 10000, 1 << 32, 1<<32 + 1, 1 << 62, math.MaxInt, math.MinInt} {
		mustNotTake(t, "P7: a number that no shape has", taking{"abc", 1, 0, []int{wrong}, []int{0}, false}, pouch.ErrView)
		mustNotTake(t, "P7: a number that no shape has, ahead of 0", taking{"abc", 1, 0, []int{wrong, 0}, []int{0, 0}, false}, pouch.ErrView)
		mustNotTake(t, "P7: a number that no shape has, behind 0", taking{"abc", 1, 0, []int{0, wrong}, []int{0, 0}, false}, pouch.ErrView)
		mustNotTake(t, "P7: a number that no shape has, twice", taking{"abc", 1, 0, []int{wrong, wrong}, []int{0, 0}, false}, pouch.ErrView)
		mustNotTake(t, "P7: a number that no shape has, four times", taking{"abc", 1, 0, []int{wrong, wrong, wrong, wrong}, []int{0, 0, 0, 0}, false}, pouch.ErrView)
	}
}

func TestTakeAsManyStrides(t *testing.T) {
	for rank := range 5 {
		for many := range 6 {
			for _, number := range []int{0, 1} {
				c := taking{"a", 1, 0, slices.Repeat([]int{number}, rank), make([]int, many), false}
				switch {
				case rank != many:
					mustNotTake(t, "P7: other strides", c, pouch.ErrView)
				case rank == 0 || number == 1:
					mustTakeBoth(t, "P7: as many strides", c, "a")
				default:
					mustTakeBoth(t, "P7: as many strides, no items", c, "")
				}
			}
		}
	}
}

func TestTakeWidth(t *testing.T) {
	data := manyBytes(64)
	for width := 1; width <= 16; width++ {
		mustTakeBoth(t, "P7: width", taking{data, width, 3, nil, nil, false}, data[3:3+width])
		mustTakeBoth(t, "P7: width", taking{data, width, 0, []int{2}, []int{1}, false}, data[:width]+data[1:1+width])
		mustTakeBoth(t, "P7: width, no items", taking{data, width, 0, []int{0}, []int{1}, false}, "")
	}
	for _, width := range []int{0, -1, 17, 32, math.MaxInt, math.MinInt, 1<<32 + 1} {
		mustNotTake(t, "P7: width", taking{data, width, 0, nil, nil, false}, pouch.ErrView)
		mustNotTake(t, "P7: width", taking{data, width, 20, []int{2}, []int{1}, false}, pouch.ErrView)
		mustNotTake(t, "P7: width, no items", taking{data, width, 0, []int{0}, []int{1}, false}, pouch.ErrView)
		mustNotTake(t, "P7: width, no data", taking{"", width, 0, []int{0}, []int{1}, false}, pouch.ErrView)
	}
}

func TestTakeAtMost600Bytes(t *testing.T) {
	data := manyBytes(16)
	for width := 1; width <= 16; width++ {
		most := 600 / width
		mustTakeBoth(t, "P7: as many as there may be", taking{data, width, 0, []int{most}, []int{0}, false}, strings.Repeat(data[:width], most))
		mustNotTake(t, "P7: one more", taking{data, width, 0, []int{most + 1}, []int{0}, false}, pouch.ErrView)
	}
	mustTakeBoth(t, "P7: 600 items", taking{"a", 1, 0, []int{25, 24}, []int{0, 0}, false}, strings.Repeat("a", 600))
	mustTakeBoth(t, "P7: 600 items", taking{"a", 1, 0, []int{3, 5, 4, 10}, []int{0, 0, 0, 0}, false}, strings.Repeat("a", 600))
	mustNotTake(t, "P7: 601 items", taking{"a", 1, 0, []int{1, 601}, []int{0, 0}, false}, pouch.ErrView)
	mustNotTake(t, "P7: 625 items", taking{"a", 1, 0, []int{25, 25}, []int{0, 0}, false}, pouch.ErrView)
	mustNotTake(t, "P7: 625 items", taking{"a", 1, 0, []int{5, 5, 5, 5}, []int{0, 0, 0, 0}, false}, pouch.ErrView)
	mustNotTake(t, "P7: 9999 items", taking{"a", 1, 0, []int{9999}, []int{0}, false}, pouch.ErrView)
	mustNotTake(t, "P7: all items", taking{"a", 16, 0, []int{9999, 9999, 9999, 9999}, []int{0, 0, 0, 0}, false}, pouch.ErrView)
	// 2^16 times 2^16 would be 0 in 32 bits.
	mustNotTake(t, "P7: 2^32 items", taking{"a", 1, 0, []int{4096, 4096, 256}, []int{0, 0, 0}, false}, pouch.ErrView)
}

func TestTakeFrom(t *testing.T) {
	for size := range 5 {
		data := "abcd"[:size]
		for from := range size + 1 {
			mustTakeBoth(t, "P7: from, no items", taking{data, 2, from, []int{0}, []int{1}, false}, "")
			if from < size {
				mustTakeBoth(t, "P7: from", taking{data, 1, from, nil, nil, false}, data[from:from+1])
			}
		}
		mustNotTake(t, "P7: from the end, an item", taking{data, 1, size, nil, nil, false}, pouch.ErrView)
		mustNotTake(t, "P7: from the end, backwards", taking{data, 1, size, []int{2}, []int{-1}, false}, pouch.ErrView)
		for _, from := range []int{-1, size + 1, 600, 601, math.MinInt, math.MaxInt, math.MaxInt - 1, -1 << 32, 1 << 32} {
			mustNotTake(t, "P7: from, no items", taking{data, 1, from, []int{0}, []int{1}, false}, pouch.ErrView)
			mustNotTake(t, "P7: from, one item", taking{data, 1, from, nil, nil, false}, pouch.ErrView)
			mustNotTake(t, "P7: from, two items", taking{data, 1, from, []int{2}, []int{1}, false}, pouch.ErrView)
			mustNotTake(t, "P7: from, wide items", taking{data, 16, from, []int{2}, []int{-1}, false}, pouch.ErrView)
		}
	}
	longest := manyBytes(600)
	mustTakeBoth(t, "P7: from 600, no items", taking{longest, 1, 600, []int{0}, []int{1}, false}, "")
	mustNotTake(t, "P7: from 601", taking{longest, 1, 601, []int{0}, []int{1}, false}, pouch.ErrView)
}

func TestTakeAnyStrideWhereNoneIsGone(t *testing.T) {
	for _, stride := range anyNumbers() {
		mustTakeBoth(t, "P7: a number 1", taking{"abcdef", 2, 3, []int{1}, []int{stride}, false}, "de")
		mustTakeBoth(t, "P7: a number 1, ahead", taking{"abcdef", 1, 3, []int{1, 3}, []int{stride, -1}, false}, "dcb")
		mustTakeBoth(t, "P7: a number 1, behind", taking{"abcdef", 1, 3, []int{3, 1}, []int{1, stride}, false}, "def")
		mustTakeBoth(t, "P7: numbers 1", taking{"abcdef", 1, 3, []int{1, 2, 1, 1}, []int{stride, -3, stride, stride}, false}, "da")
		mustTakeBoth(t, "P7: a number 0", taking{"abcdef", 2, 3, []int{0}, []int{stride}, false}, "")
		mustTakeBoth(t, "P7: no items", taking{"abcdef", 2, 3, []int{0, 5}, []int{1, stride}, false}, "")
		mustTakeBoth(t, "P7: no items", taking{"abcdef", 2, 6, []int{9999, 0, 2}, []int{stride, stride, stride}, false}, "")
	}
}

func TestTakeGreatStrides(t *testing.T) {
	longest := manyBytes(600)
	first, last := longest[:1], longest[599:]
	mustTakeBoth(t, "P7: the widest stride", taking{longest, 1, 0, []int{2}, []int{599}, false}, first+last)
	mustTakeBoth(t, "P7: the widest stride back", taking{longest, 1, 599, []int{2}, []int{-599}, false}, last+first)
	mustTakeBoth(t, "P7: wide items", taking{longest, 16, 0, []int{2}, []int{584}, false}, longest[:16]+longest[584:])
	mustNotTake(t, "P7: wide items", taking{longest, 16, 0, []int{2}, []int{585}, false}, pouch.ErrView)
	for _, stride := range anyNumbers() {
		if stride >= -1 && stride <= 1 {
			continue
		}
		for _, from := range []int{0, 1, 300, 599, 600} {
			mustNotTake(t, "P7: a great stride", taking{longest, 1, from, []int{2}, []int{stride}, false}, pouch.ErrView)
			mustNotTake(t, "P7: a great stride", taking{longest, 1, from, []int{5}, []int{stride}, false}, pouch.ErrView)
			mustNotTake(t, "P7: a great stride and its opposite", taking{longest, 1, from, []int{2, 2}, []int{stride, -stride}, false}, pouch.ErrView)
			mustNotTake(t, "P7: great strides", taking{longest, 1, from, []int{2, 1, 2}, []int{stride, stride, stride}, false}, pouch.ErrView)
			mustNotTake(t, "P7: a great stride, more items", taking{longest, 1, from, []int{3, 200}, []int{1, stride}, false}, pouch.ErrView)
		}
	}
}

func TestTakeItemsLieInData(t *testing.T) {
	data := "abcdefgh"
	mustTakeBoth(t, "P7: up to the end", taking{data, 2, 2, []int{3}, []int{2}, false}, "cdefgh")
	mustNotTake(t, "P7: half an item", taking{data, 2, 3, []int{3}, []int{2}, false}, pouch.ErrView)
	mustNotTake(t, "P7: one item more", taking{data, 2, 2, []int{4}, []int{2}, false}, pouch.ErrView)
	mustTakeBoth(t, "P7: back to the beginning", taking{data, 2, 6, []int{4}, []int{-2}, false}, "ghefcdab")
	mustNotTake(t, "P7: half an item ahead", taking{data, 2, 5, []int{4}, []int{-2}, false}, pouch.ErrView)
	mustNotTake(t, "P7: the first item only", taking{data, 2, 7, []int{4}, []int{-2}, false}, pouch.ErrView)
	mustTakeBoth(t, "P7: the same item", taking{data, 3, 5, []int{4}, []int{0}, false}, "fghfghfghfgh")
	mustNotTake(t, "P7: the same item, outside", taking{data, 3, 6, []int{4}, []int{0}, false}, pouch.ErrView)
	mustTake(t, "P7: forth and back", taking{data, 1, 3, []int{2, 2}, []int{4, -3}, false}, "dahe")
	mustTake(t, "P7: forth and back", taking{data, 1, 3, []int{2, 2}, []int{4, -3}, true}, "dhae")
	mustNotTake(t, "P7: a corner behind", taking{data, 1, 4, []int{2, 2}, []int{4, -3}, false}, pouch.ErrView)
	mustNotTake(t, "P7: a corner ahead", taking{data, 1, 2, []int{2, 2}, []int{4, -3}, false}, pouch.ErrView)
	mustNotTake(t, "P7: no data", taking{"", 1, 0, nil, nil, false}, pouch.ErrView)
	mustNotTake(t, "P7: no data", taking{"", 1, 0, []int{1}, []int{1}, false}, pouch.ErrView)
}

func TestTakeOrder(t *testing.T) {
	data := "abcdefghijklmnopqrstuvwx"
	mustTake(t, "P7: the last index quickest", taking{data, 1, 0, []int{2, 3, 4}, []int{12, 4, 1}, false}, data)
	mustTake(t, "P7: the first index quickest", taking{data, 1, 0, []int{2, 3, 4}, []int{12, 4, 1}, true}, "ameqiubnfrjvcogskwdphtlx")
	mustTake(t, "P7: strides the other way", taking{data, 1, 0, []int{2, 3, 4}, []int{1, 2, 6}, true}, data)
	mustTake(t, "P7: strides the other way", taking{data, 1, 0, []int{2, 3, 4}, []int{1, 2, 6}, false}, "agmsciouekqwbhntdjpvflrx")
	mustTake(t, "P7: four indices", taking{data, 1, 0, []int{2, 2, 3, 2}, []int{12, 6, 2, 1}, false}, data)
	mustTake(t, "P7: four indices", taking{data, 1, 0, []int{2, 3, 2, 2}, []int{1, 2, 6, 12}, true}, data)
	mustTake(t, "P7: wide items", taking{data, 3, 0, []int{2, 4}, []int{12, 3}, true}, "abcmnodefpqrghistujklvwx")
	mustTake(t, "P7: all backwards", taking{data, 1, 23, []int{4, 6}, []int{-6, -1}, false}, "xwvutsrqponmlkjihgfedcba")
}

// takeByWords goes through all indices as P7 tells it, with numbers of any size. (It need not ask for great strides: each leads out of 600 bytes.)
func takeByWords(c taking) (string, pouch.Errno) {
	if len(c.data) > 600 {
		return "", pouch.ErrLong
	}
	items := big.NewInt(1)
	for _, number := range c.shape {
		if number < 0 || number > 9999 {
			return "", pouch.ErrView
		}
		items.Mul(items, big.NewInt(int64(number)))
	}
	if len(c.shape) > 4 || len(c.strides) != len(c.shape) || c.width < 1 || c.width > 16 || c.from < 0 || c.from > len(c.data) {
		return "", pouch.ErrView
	}
	if items.Cmp(big.NewInt(int64(600/c.width))) > 0 {
		return "", pouch.ErrView
	}
	indices := make([]int, len(c.shape))
	var out strings.Builder
	for range items.Int64() {
		place := big.NewInt(int64(c.from))
		for i, index := range indices {
			place.Add(place, new(big.Int).Mul(big.NewInt(int64(index)), big.NewInt(int64(c.strides[i]))))
		}
		if place.Sign() < 0 || place.Cmp(big.NewInt(int64(len(c.data)-c.width))) > 0 {
			return "", pouch.ErrView
		}
		out.WriteString(c.data[place.Int64():][:c.width])
		step(indices, c.shape, c.fortran)
	}
	return out.String(), pouch.OK
}

// step goes on to the next indices.
func step(indices, shape []int, fortran bool) {
	for i := range indices {
		at := len(indices) - 1 - i
		if fortran {
			at = i
		}
		indices[at]++
		if indices[at] < shape[at] {
			return
		}
		indices[at] = 0
	}
}

func TestTakeByWords(t *testing.T) {
	random := rand.New(rand.NewSource(7))
	pick := func(from []int) int { return from[random.Intn(len(from))] }
	fine := 0
	for range 60000 {
		c := taking{data: manyBytes(random.Intn(40)), width: 1 + random.Intn(4), fortran: random.Intn(2) == 0}
		c.from = random.Intn(len(c.data) + 1)
		for range random.Intn(5) {
			c.shape = append(c.shape, random.Intn(4))
			c.strides = append(c.strides, random.Intn(17)-8)
		}
		for i := range c.shape {
			switch random.Intn(40) {
			case 0:
				c.shape[i] = pick([]int{-1, 9999, 10000, 300, 600, 601, math.MaxInt, math.MinInt})
			case 1, 2:
				c.strides[i] = pick(anyNumbers())
			}
		}
		switch random.Intn(40) {
		case 0:
			c.from = pick(anyNumbers())
		case 1:
			c.width = pick(anyNumbers())
		case 2:
			c.width = 1 + random.Intn(17)
		}
		want, e := takeByWords(c)
		if e != pouch.OK {
			mustNotTake(t, "P7: by its words", c, e)
			continue
		}
		fine++
		mustTake(t, "P7: by its words", c, want)
	}
	if fine < 10000 {
		t.Errorf("only %d views were fine", fine)
	}
}
