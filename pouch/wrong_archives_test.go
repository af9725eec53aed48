package pouch_test

import (
	"fmt"
	"math/rand"
	"slices"
	"strings"
	"testing"

	"pouch/pouch"
)

func turned(text string, i int, with byte) string {
	return text[:i] + string([]byte{text[i] ^ with}) + text[i+1:]
}

// turnings are the texts that differ from a text in one bit, or in all bits of one byte.
func turnings(text string) []string {
	var out []string
	for i := range len(text) {
		for _, with := range []byte{1, 2, 4, 8, 16, 32, 64, 128, 255} {
			out = append(out, turned(text, i, with))
		}
	}
	return out
}

// TestWrongFields turns each field of a part, of an entry and of the end, one at a time: but for the bytes of a part, that leaves no archive.
func TestWrongFields(t *testing.T) {
	fields := archiveFields(zipMembers(t, someMembers())...)
	mustLoad(t, "P14: the right fields", join(fields), 3000, someMembers())
	for i, f := range fields {
		for _, text := range turnings(f.text) {
			fields[i].text = text
			if strings.HasSuffix(f.about, "bytes") {
				mustLoadByWords(t, "P15: "+f.about, join(fields), 3000)
			} else {
				mustBeNoArchive(t, "P14: "+f.about, join(fields))
			}
		}
		fields[i] = f
	}
}

// TestWrongFieldsInBothPlaces turns a field of a member's part, and that of its entry likewise.
func TestWrongFieldsInBothPlaces(t *testing.T) {
	members := someMembers()
	for number, m := range members {
		fields := archiveFields(zipMembers(t, members)...)
		for _, about := range []string{"version", "flags", "method", "time", "day", "sum", "size", "length", "length of the name", "more", "name"} {
			part := slices.IndexFunc(fields, func(f field) bool { return f.about == fmt.Sprintf("part %d: %s", number, about) })
			entry := slices.IndexFunc(fields, func(f field) bool { return f.about == fmt.Sprintf("entry %d: %s", number, about) })
			right := fields[part].text
			if fields[entry].text != right {
				t.Fatalf("%s: %q and %q", about, right, fields[entry].text)
			}
			for _, text := range turnings(right) {
				fields[part].text, fields[entry].text = text, text
				data := join(fields)
				switch {
				case about == "sum":
					mustNotLoad(t, "P15: both sums", data, 3000, pouch.ErrCrc, number)
				case about == "length" && m.Packed && int(text[0])+int(text[1])<<8 <= 3000 && text[2:] == "\x00\x00":
					mustNotLoad(t, "P15: both lengths", data, 3000, pouch.ErrData, number)
				case about == "length" && m.Packed:
					mustNotLoad(t, "P15: both lengths", data, 3000, pouch.ErrMost, number)
				case about == "method" && text == two(8):
					mustNotLoad(t, "P15: both methods", data, 3000, pouch.ErrData, number)
				case about == "name":
					mustLoadByWords(t, "P14: both names", data, 3000)
				default:
					mustBeNoArchive(t, "P14: both: "+about, data)
				}
			}
			fields[part].text, fields[entry].text = right, right
		}
	}
}

func TestWrongMethods(t *testing.T) {
	plain, packed := zipFile("a", fileByWords(smallTensor())), zipPacked(t, "a", fileByWords(smallTensor()))
	for method := 1; method < 1<<16; method++ {
		if method == 8 {
			continue
		}
		for _, z := range []zipped{plain, packed} {
			z.method = method
			mustNotLoad(t, "P14: a method", archiveByWords(z), 3000, pouch.ErrZip, 0)
		}
	}
}

func TestWrongLengthsOfStoredFiles(t *testing.T) {
	z := zipFile("a", fileByWords(smallTensor()))
	for _, length := range []int{0, len(z.bytes) - 1, len(z.bytes) + 1, len(z.bytes) + 1<<8, len(z.bytes) + 1<<16, 1<<32 - 1} {
		z.length = length
		mustBeNoArchive(t, "P14: another length", archiveByWords(z))
	}
}

func TestWrongNames(t *testing.T) {
	file := fileByWords(smallTensor())
	for _, name := range []string{
		"", "a", ".npy", "npy", "a.np", "a.npyx", "a.npy\x00", "anpy", "a.NPY", "A.npy", "a.npy.npy", "a_npy",
		" a.npy", "a .npy", "a/b.npy", "../a.npy", "\x00.npy", "é.npy", "\xff.npy", "`.npy", "{.npy", "/.npy", ":.npy", "^.npy",
		"abcdefghijklm.npy", "abcdefghijklmnopqrstuvwxyz.npy", strings.Repeat("a", 1000) + ".npy",
	} {
		z := zipFile("", file)
		z.name = name
		mustBeNoArchive(t, "P14: a name", archiveByWords(z))
		mustBeNoArchive(t, "P14: a name", archiveByWords(zipFile("b", file), z, zipFile("c", file)))
		mustBeNoArchive(t, "P14: a name, and nothing behind its part", join(partFields(z)))
	}
	for b := range 256 {
		sign := string([]byte{byte(b)})
		for _, name := range []string{sign, sign + "a", "b" + sign + "b", "abcdefghijk" + sign} {
			mustLoadByWords(t, "P14: each sign", archiveByWords(zipFile(name, file)), 3000)
		}
	}
	for count := range 20 {
		mustLoadByWords(t, "P14: each length", archiveByWords(zipFile(strings.Repeat("a", count), file)), 3000)
	}
	mustLoad(t, "P14: a name of twelve bytes", archiveByWords(zipFile("abcdefghijkl", file)), 3000, smallMembers("abcdefghijkl"))
}

func TestTheSameNameTwice(t *testing.T) {
	names := []string{"a", "b", "c", "d"}
	for second := 1; second < 4; second++ {
		for first := range second {
			var list []zipped
			for i, name := range names {
				if i == second {
					name = names[first]
				}
				list = append(list, zipFile(name, fileByWords(smallTensor())))
			}
			mustBeNoArchive(t, "P14: twice", archiveByWords(list...))
			list[second] = zipPacked(t, names[first], "another file")
			mustBeNoArchive(t, "P14: twice, of another file", archiveByWords(list...))
		}
	}
}

// pieces are the parts, the entries and the end of an archive.
func pieces(list []zipped) (parts, entries []string, end string) {
	begin, size := 0, 0
	for _, z := range list {
		entries = append(entries, join(entryFields(z, begin)))
		parts = append(parts, join(partFields(z)))
		begin += len(parts[len(parts)-1])
		size += len(entries[len(entries)-1])
	}
	return parts, entries, join(endFields(len(list), size, begin))
}

func swapped(list []string, i, j int) string {
	list = slices.Clone(list)
	list[i], list[j] = list[j], list[i]
	return strings.Join(list, "")
}

func TestAnotherOrder(t *testing.T) {
	list := zipMembers(t, someMembers())
	parts, entries, end := pieces(list)
	allParts, allEntries := strings.Join(parts, ""), strings.Join(entries, "")
	mustLoad(t, "P14: the right order", allParts+allEntries+end, 3000, someMembers())
	for j := range list {
		for i := range j {
			mustBeNoArchive(t, "P14: entries in another order", allParts+swapped(entries, i, j)+end)
			mustBeNoArchive(t, "P14: parts in another order", swapped(parts, i, j)+allEntries+end)
			mustBeNoArchive(t, "P14: both in another order, the beginnings as they were", swapped(parts, i, j)+swapped(entries, i, j)+end)
		}
	}
	for _, data := range []string{
		allEntries + allParts + end,
		end + allParts + allEntries,
		allParts + end + allEntries,
		allParts + end,
		allEntries + end,
		allParts + allEntries,
		allParts + allEntries + end + end,
		allParts + allEntries + allEntries + end,
		end,
	} {
		mustBeNoArchive(t, "P14: pieces in another order", data)
	}
}

// TestAnotherOrderWithRightBeginnings has parts and entries each told rightly, but in two orders.
func TestAnotherOrderWithRightBeginnings(t *testing.T) {
	first, second := zipFile("a", fileByWords(smallTensor())), zipPacked(t, "b", fileByWords(smallTensor()))
	parts := join(partFields(first)) + join(partFields(second))
	entries := join(entryFields(second, len(join(partFields(first))))) + join(entryFields(first, 0))
	mustBeNoArchive(t, "P14: entries in another order", parts+entries+join(endFields(2, len(entries), len(parts))))
}

func TestPiecesTooManyOrTooFew(t *testing.T) {
	list := zipMembers(t, someMembers()[:3])
	parts, entries, _ := pieces(list)
	for partCount := range 4 {
		for entryCount := range 4 {
			for count := range 5 {
				if partCount == entryCount && entryCount == count {
					continue
				}
				first, second := strings.Join(parts[:partCount], ""), strings.Join(entries[:entryCount], "")
				mustBeNoArchive(t, "P14: counts", first+second+join(endFields(count, len(second), len(first))))
			}
		}
	}
}

func TestTwoCounts(t *testing.T) {
	parts, entries, _ := pieces(zipMembers(t, someMembers()[:2]))
	first, second := strings.Join(parts, ""), strings.Join(entries, "")
	for _, counts := range [][2]int{{2, 1}, {1, 2}, {2, 0}, {0, 2}, {2, 3}, {3, 3}, {258, 258}, {65535, 65535}} {
		end := endFields(counts[0], len(second), len(first))
		end[3].text = two(counts[1])
		mustBeNoArchive(t, "P14: how many members", first+second+join(end))
	}
}

// TestABytesMore has a byte ahead of, between and behind all fields, and the places told as they were, or told anew.
func TestABytesMore(t *testing.T) {
	data := archiveByWords(zipMembers(t, someMembers())...)
	for i := range len(data) + 1 {
		for _, more := range []string{"\x00", "P", "\xff", data[:i]} {
			if more != "" {
				mustBeNoArchive(t, "P14: a byte more", data[:i]+more+data[i:])
			}
		}
	}
	list := zipMembers(t, someMembers()[:2])
	for gap := range 4 {
		var gaps [4]string
		gaps[gap] = "x"
		first, second := gaps[0]+join(partFields(list[0])), gaps[1]+join(partFields(list[1]))
		begin := len(first) + len(gaps[1])
		parts := first + second + gaps[2]
		entries := join(entryFields(list[0], len(gaps[0]))) + join(entryFields(list[1], begin))
		mustBeNoArchive(t, "P14: a byte more, places told anew", parts+entries+gaps[3]+join(endFields(2, len(entries), len(parts))))
		mustBeNoArchive(t, "P14: a byte more, counted as an entry's", parts+entries+gaps[3]+join(endFields(2, len(entries)+len(gaps[3]), len(parts))))
	}
}

func TestCutShort(t *testing.T) {
	for count := range 5 {
		data := archiveByWords(zipMembers(t, someMembers()[:count])...)
		for i := range len(data) {
			mustBeNoArchive(t, "P14: cut short", data[:i])
			mustBeNoArchive(t, "P14: a byte less", data[:i]+data[i+1:])
			if i > 0 {
				mustBeNoArchive(t, "P14: its beginning cut away", data[i:])
			}
		}
	}
}

func TestUnlikeCommonsAndNames(t *testing.T) {
	right := zipFile("a", fileByWords(smallTensor()))
	others := []zipped{right, right, right, right, right}
	others[0].name = "b.npy"
	others[1].sum++
	others[2].method = 8
	others[3].length++
	others[4].bytes += "x"
	for _, other := range others {
		part, entry := join(partFields(right)), join(entryFields(other, 0))
		mustBeNoArchive(t, "P14: unlike", part+entry+join(endFields(1, len(entry), len(part))))
		part, entry = join(partFields(other)), join(entryFields(right, 0))
		mustBeNoArchive(t, "P14: unlike", part+entry+join(endFields(1, len(entry), len(part))))
	}
}

// TestAnArchiveInAnArchive has signs of parts and of ends in a part's bytes, which are not to be found there.
func TestAnArchiveInAnArchive(t *testing.T) {
	inner := archiveByWords(zipFile("b", ""))
	tensor := pouch.Tensor{Kind: "|u1", Shape: []int{len(inner)}, Data: inner}
	list := []pouch.Member{{Name: "a", Tensor: tensor}, {Name: "b", Tensor: tensor}}
	data := archiveByWords(zipMembers(t, list)...)
	mustLoad(t, "P14: an archive in an archive", data, 3000, list)
	for i := range len(data) {
		if strings.HasPrefix(data[i:], "PK") && i > 0 {
			mustBeNoArchive(t, "P14: from the inner archive on", data[i:])
			mustBeNoArchive(t, "P14: up to the inner archive", data[:i])
		}
	}
}

func TestLoadNeverPanics(t *testing.T) {
	random := rand.New(rand.NewSource(15))
	signs := []string{"PK\x03\x04", "PK\x01\x02", "PK\x05\x06", two(20), two(0), two(8), two(33), four(0), four(1<<32 - 1), four(128), two(5), "a.npy", fileByWords(smallTensor())}
	for range 20000 {
		var data strings.Builder
		for range random.Intn(40) {
			data.WriteString(signs[random.Intn(len(signs))])
		}
		mustLoadByWords(t, "P1: any signs", data.String(), random.Intn(3001))
	}
}
