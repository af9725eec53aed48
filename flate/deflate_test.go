package flate

import (
	"slices"
	"strings"
	"testing"
)

func TestPieces(t *testing.T) {
	for _, c := range []struct {
		text  string
		least int
		want  []piece
	}{
		{"", leastCopy, nil},
		{"ab", leastCopy, []piece{{single: 'a'}, {single: 'b'}}},
		{"aaa", leastCopy, []piece{{single: 'a'}, {single: 'a'}, {single: 'a'}}},
		{"aaaa", leastCopy, []piece{{single: 'a'}, {length: 3, distance: 1}}},
		{"aaaa", noCopy, []piece{{single: 'a'}, {single: 'a'}, {single: 'a'}, {single: 'a'}}},
		{"abcabcab", leastCopy, []piece{{single: 'a'}, {single: 'b'}, {single: 'c'}, {length: 5, distance: 3}}},
		{"abcabc", 4, []piece{{single: 'a'}, {single: 'b'}, {single: 'c'}, {single: 'a'}, {single: 'b'}, {single: 'c'}}},
		{"xyz1xyz2xyz", leastCopy, []piece{{single: 'x'}, {single: 'y'}, {single: 'z'}, {single: '1'}, {length: 3, distance: 4}, {single: '2'}, {length: 3, distance: 4}}},
		{strings.Repeat("a", 261), leastCopy, []piece{{single: 'a'}, {length: 258, distance: 1}, {single: 'a'}, {single: 'a'}}},
		{strings.Repeat("a", 600), leastCopy, []piece{{single: 'a'}, {length: 258, distance: 1}, {length: 258, distance: 1}, {length: 83, distance: 1}}},
	} {
		if got := slices.Collect(pieces(c.text, c.least)); !slices.Equal(got, c.want) {
			t.Errorf("the pieces of %.20q are %v, want %v", c.text, got, c.want)
		}
	}
}

func TestPiecesMayBeLeftEarly(t *testing.T) {
	all := pieces("abcabcabd", leastCopy)
	for most := range 6 {
		var seen []piece
		for p := range all {
			seen = append(seen, p)
			if len(seen) > most {
				break
			}
		}
		if want := slices.Collect(all); !slices.Equal(seen, want[:min(most+1, len(want))]) {
			t.Errorf("left behind %d pieces: %v of %v", most+1, seen, want)
		}
	}
}

func TestRuns(t *testing.T) {
	for _, c := range []struct {
		row  []int
		want []mark
	}{
		{nil, nil},
		{[]int{0, 0}, []mark{{symbol: 0}, {symbol: 0}}},
		{[]int{0, 0, 0}, []mark{{17, 0, 3}}},
		{slices.Repeat([]int{0}, 10), []mark{{17, 7, 3}}},
		{slices.Repeat([]int{0}, 11), []mark{{18, 0, 7}}},
		{slices.Repeat([]int{0}, 138), []mark{{18, 127, 7}}},
		{slices.Repeat([]int{0}, 140), []mark{{18, 127, 7}, {symbol: 0}, {symbol: 0}}},
		{slices.Repeat([]int{0}, 141), []mark{{18, 127, 7}, {17, 0, 3}}},
		{[]int{5, 5, 5}, []mark{{symbol: 5}, {symbol: 5}, {symbol: 5}}},
		{[]int{5, 5, 5, 5}, []mark{{symbol: 5}, {16, 0, 2}}},
		{slices.Repeat([]int{5}, 8), []mark{{symbol: 5}, {16, 3, 2}, {symbol: 5}}},
		{slices.Repeat([]int{15}, 10), []mark{{symbol: 15}, {16, 3, 2}, {16, 0, 2}}},
		{[]int{1, 0, 0, 0, 2, 2}, []mark{{symbol: 1}, {17, 0, 3}, {symbol: 2}, {symbol: 2}}},
	} {
		if got := slices.Collect(runs(c.row)); !slices.Equal(got, c.want) {
			t.Errorf("the runs of %v are %v, want %v", c.row, got, c.want)
		}
		for range runs(c.row) {
			break
		}
	}
}

func TestLengthsFor(t *testing.T) {
	for _, c := range []struct {
		counts []int
		most   int
		want   []int
	}{
		{[]int{0, 0, 0}, 15, []int{0, 0, 0}},
		{[]int{0, 0, 7}, 15, []int{1, 0, 1}},
		{[]int{7, 0, 0}, 15, []int{1, 1, 0}},
		{[]int{1, 1}, 15, []int{1, 1}},
		{[]int{4, 0, 1, 2}, 15, []int{1, 0, 2, 2}},
		{[]int{1, 1, 1, 1}, 15, []int{2, 2, 2, 2}},
		{[]int{1, 1, 2, 4, 8}, 15, []int{4, 4, 3, 2, 1}},
		{[]int{1, 1, 2, 4, 8}, 3, []int{3, 3, 3, 3, 1}},
		{[]int{1, 1, 1, 1, 100}, 3, []int{3, 3, 3, 3, 1}},
	} {
		if got := lengthsFor(c.counts, c.most); !slices.Equal(got, c.want) {
			t.Errorf("the lengths for %v, at most %d, are %v, want %v", c.counts, c.most, got, c.want)
		}
	}
}

func TestLengthsForUseUpAllBits(t *testing.T) {
	counts := make([]int, 19)
	for i := range counts {
		counts[i] = 1 << i
	}
	for used := 2; used <= len(counts); used++ {
		for most := 5; most <= 15; most++ {
			lengths := lengthsFor(counts[:used], most)
			if !usesAllBits(lengths) || slices.Max(lengths) > most || slices.Min(lengths) == 0 {
				t.Errorf("the lengths for %v, at most %d, are %v", counts[:used], most, lengths)
			}
		}
	}
}

// The code of such lengths' lengths would be longer than a short code may be, if nothing held it back.
func TestHeadsAreReadBack(t *testing.T) {
	uneven := []int{15, 1, 15, 2}
	for length := 3; length < 9; length++ {
		uneven = append(uneven, slices.Repeat([]int{15, length}, 1<<(length-2))...)
	}
	uneven = append(uneven, slices.Repeat([]int{15}, 257)...)[:257]
	for _, row := range [][]int{
		append(slices.Repeat([]int{0}, 256), 1, 1),
		append(slices.Repeat([]int{9, 8}, 128), 7),
		uneven,
	} {
		for _, distances := range [][]int{{0}, {1, 1}, slices.Repeat([]int{5}, 30)} {
			out := &writer{}
			writeLengths(out, row, distances)
			in := &reader{data: string(out.data)}
			n, err := readCounts(in)
			if err != nil || n.symbols != len(row) || n.distances != len(distances) {
				t.Fatalf("the counts are %v, %v, want %d and %d", n, err, len(row), len(distances))
			}
			short, err := readShortCode(in, n.short)
			if err != nil {
				t.Fatal(err)
			}
			got, err := readLengths(in, short, n.symbols+n.distances)
			if err != nil || !slices.Equal(got, slices.Concat(row, distances)) {
				t.Errorf("read back %v, %v, want %v, %v", got, err, row, distances)
			}
			if in.at != out.used {
				t.Errorf("read %d bits of %d", in.at, out.used)
			}
		}
	}
}

func TestHeadsLeaveLastZerosOut(t *testing.T) {
	symbols := append(slices.Repeat([]int{0}, 255), 1, 1)
	short, long := &writer{}, &writer{}
	writeLengths(short, symbols, []int{1, 1})
	writeLengths(long, append(symbols, make([]int, 29)...), append([]int{1, 1}, make([]int, 28)...))
	if string(short.data) != string(long.data) || short.used != long.used {
		t.Errorf("with zeros behind the lengths: %q, without: %q", long.data, short.data)
	}
	// The short code has symbols 18, 0 and 1, and 1 is the last but one in its order.
	if want := 5 + 5 + 4 + 18*3; short.used < want || short.used > want+30 {
		t.Errorf("the head has %d bits", short.used)
	}
	bytesAlone := &writer{}
	writeLengths(bytesAlone, append(slices.Repeat([]int{8}, 255), 9, 9), []int{0})
	if short := bytesAlone.data[1] >> 2 & 15; short != 7-4 {
		t.Errorf("the head has %d lengths of the short code, want those of 16, 17, 18, 0, 8, 7 and 9", short+4)
	}
}

func TestTooLongStreamsAreLeftEarly(t *testing.T) {
	text := strings.Repeat("0123456789", 60)
	for room := range 20 {
		p := &packer{text: text, room: room}
		out := beginBlock(static)
		p.finish(out, fixed, noCopy)
		if len(out.data) > room+3 {
			t.Errorf("a stream that must stay below %d bytes was written on to %d", room, len(out.data))
		}
	}
}

func TestEachWayOfPackingStandsForTheText(t *testing.T) {
	for _, text := range []string{"", "a", "\xff\xfe", "aaaa", strings.Repeat("a", 600), "abcabcabcabd", strings.Repeat("tensors in archives, ", 28)} {
		ways := []func(p *packer){
			func(p *packer) { p.tryStored() },
			func(p *packer) { p.tryStatic() },
			func(p *packer) { p.tryDynamic(leastCopy) },
			func(p *packer) { p.tryDynamic(noCopy) },
		}
		for i, way := range ways {
			p := &packer{text: text, room: 3000}
			way(p)
			told, read, err := Inflate(p.best, len(text))
			if told != text || read != len(p.best) || err != nil {
				t.Errorf("way %d of packing %.20q: read back %.20q, %d of %d, %v", i, text, told, read, len(p.best), err)
			}
		}
	}
}

func TestTooLongStreamsAreNotKept(t *testing.T) {
	text := "no byte comes twice"
	for _, way := range []func(p *packer){(*packer).tryStored, (*packer).tryStatic, func(p *packer) { p.tryDynamic(leastCopy) }} {
		p := &packer{text: text, room: 3000}
		way(p)
		size := len(p.best)
		for room := range size + 1 {
			p := &packer{text: text, best: "kept", room: room}
			way(p)
			if p.best != "kept" || p.room != room {
				t.Errorf("a stream of %d bytes in room for less than %d: %q, %d", size, room, p.best, p.room)
			}
		}
		p = &packer{text: text, best: "kept", room: size + 1}
		way(p)
		if len(p.best) != size || p.room != size {
			t.Errorf("a stream of %d bytes is not kept: %q, %d", size, p.best, p.room)
		}
	}
}
