package pouch_test

import (
	"encoding/binary"
	"fmt"
	"hash/crc32"
	"regexp"
	"slices"
	"strings"
	"testing"

	"pouch/pouch"
)

// zipped is what P14's archive tells of a member: the name as it stands, and the bytes of its part.
type zipped struct {
	name   string
	method int
	sum    uint32
	length int
	bytes  string
}

// field is a piece of an archive that has a name of its own, so that each can be wrong alone.
type field struct {
	about string
	text  string
}

func two(n int) string {
	return string(binary.LittleEndian.AppendUint16(nil, uint16(n)))
}

func four(n int) string {
	return string(binary.LittleEndian.AppendUint32(nil, uint32(n)))
}

func join(fields []field) string {
	var out strings.Builder
	for _, f := range fields {
		out.WriteString(f.text)
	}
	return out.String()
}

func commonFields(z zipped) []field {
	return []field{
		{"version", two(20)}, {"flags", two(0)}, {"method", two(z.method)}, {"time", two(0)}, {"day", two(33)},
		{"sum", four(int(z.sum))}, {"size", four(len(z.bytes))}, {"length", four(z.length)},
		{"length of the name", two(len(z.name))}, {"more", two(0)},
	}
}

func partFields(z zipped) []field {
	return slices.Concat([]field{{"sign", "PK\x03\x04"}}, commonFields(z), []field{{"name", z.name}, {"bytes", z.bytes}})
}

func entryFields(z zipped, begin int) []field {
	return slices.Concat(
		[]field{{"sign", "PK\x01\x02"}, {"maker", two(20)}},
		commonFields(z),
		[]field{{"ten zeros", strings.Repeat("\x00", 10)}, {"begin", four(begin)}, {"name", z.name}},
	)
}

func endFields(count, size, begin int) []field {
	return []field{
		{"sign", "PK\x05\x06"}, {"four zeros", four(0)}, {"count", two(count)}, {"count again", two(count)},
		{"size of the entries", four(size)}, {"begin of the entries", four(begin)}, {"two zeros", two(0)},
	}
}

// archiveFields are the fields of P14's archive.
func archiveFields(list ...zipped) []field {
	var parts, entries []field
	for i, z := range list {
		begin := len(join(parts))
		parts = append(parts, called(fmt.Sprintf("part %d: ", i), partFields(z))...)
		entries = append(entries, called(fmt.Sprintf("entry %d: ", i), entryFields(z, begin))...)
	}
	end := endFields(len(list), len(join(entries)), len(join(parts)))
	return slices.Concat(parts, entries, called("end: ", end))
}

func called(about string, fields []field) []field {
	for i := range fields {
		fields[i].about = about + fields[i].about
	}
	return fields
}

func archiveByWords(list ...zipped) string {
	return join(archiveFields(list...))
}

// zipFile is a file that is not packed.
func zipFile(name, file string) zipped {
	return zipped{name + ".npy", 0, crc32.ChecksumIEEE([]byte(file)), len(file), file}
}

// zipPacked is a file that another program packed.
func zipPacked(t *testing.T, name, file string) zipped {
	t.Helper()
	z := zipFile(name, file)
	z.method = 8
	z.bytes = deflated(t, file, 9)
	return z
}

func zipMember(t *testing.T, m pouch.Member) zipped {
	t.Helper()
	if m.Packed {
		return zipPacked(t, m.Name, fileByWords(m.Tensor))
	}
	return zipFile(m.Name, fileByWords(m.Tensor))
}

func zipMembers(t *testing.T, list []pouch.Member) []zipped {
	t.Helper()
	var out []zipped
	for _, m := range list {
		out = append(out, zipMember(t, m))
	}
	return out
}

// someMembers are four members, of which the second and the fourth one are packed.
func someMembers() []pouch.Member {
	return []pouch.Member{
		{Name: "a", Tensor: pouch.Tensor{Kind: "|u1", Shape: []int{3}, Data: "abc"}},
		{Name: "weights_0", Packed: true, Tensor: pouch.Tensor{Kind: "<f4", Shape: []int{2, 2, 2}, Fortran: true, Data: strings.Repeat("\x00\x00\x80\x3f", 8)}},
		{Name: "0", Tensor: pouch.Tensor{Kind: ">c16", Shape: []int{1, 9999, 0, 1}}},
		{Name: "_abcdefghi09", Packed: true, Tensor: pouch.Tensor{Kind: "|b1", Data: "\x01"}},
	}
}

func sameMembers(a, b []pouch.Member) bool {
	return slices.EqualFunc(a, b, func(x, y pouch.Member) bool {
		return x.Name == y.Name && x.Packed == y.Packed && sameTensor(x.Tensor, y.Tensor)
	})
}

func showMembers(list []pouch.Member) string {
	var out []string
	for _, m := range list {
		out = append(out, fmt.Sprintf("%.40q %t %s", m.Name, m.Packed, show(m.Tensor)))
	}
	return "[" + strings.Join(out, "; ") + "]"
}

// backwardsByWords reads P14's archive from its end.
func backwardsByWords(data string) ([]zipped, bool) {
	if len(data) < 22 {
		return nil, false
	}
	last := len(data) - 22
	number := binary.LittleEndian
	end := []byte(data[last:])
	count, size, begin := int(number.Uint16(end[8:])), int(number.Uint32(end[12:])), int(number.Uint32(end[16:]))
	if count > 4 || begin+size != last || string(end) != join(endFields(count, size, begin)) {
		return nil, false
	}
	entries, from := data[begin:last], 0
	var list []zipped
	for range count {
		if len(entries) < 46 {
			return nil, false
		}
		head := []byte(entries[:46])
		length, inPart := int(number.Uint16(head[28:])), int(number.Uint32(head[20:]))
		if len(entries) < 46+length || from+30+length+inPart > begin {
			return nil, false
		}
		z := zipped{
			name:   entries[46 : 46+length],
			method: int(number.Uint16(head[10:])),
			sum:    number.Uint32(head[16:]),
			length: int(number.Uint32(head[24:])),
			bytes:  data[from+30+length : from+30+length+inPart],
		}
		if !strings.HasPrefix(entries, join(entryFields(z, from))) || !strings.HasPrefix(data[from:], join(partFields(z))) {
			return nil, false
		}
		entries = entries[46+length:]
		from += 30 + length + inPart
		list = append(list, z)
	}
	return list, entries == "" && from == begin && mayStandTogether(list)
}

func mayStandTogether(list []zipped) bool {
	names := map[string]int{}
	for _, z := range list {
		names[z.name]++
		if names[z.name] > 1 || !regexp.MustCompile(`^[a-z0-9_]{1,12}\.npy$`).MatchString(z.name) {
			return false
		}
		if z.method != 8 && (z.method != 0 || z.length != len(z.bytes)) {
			return false
		}
	}
	return true
}

// loadByWords is Load as P14 and P15 have it, over the calls of the promises ahead of them.
func loadByWords(data string, most int) ([]pouch.Member, pouch.Errno, int) {
	if len(data) > 3000 {
		return nil, pouch.ErrLong, 0
	}
	if most < 0 || most > 3000 {
		return nil, pouch.ErrArg, 0
	}
	list, ok := backwardsByWords(data)
	if !ok {
		return nil, pouch.ErrZip, 0
	}
	var members []pouch.Member
	for i, z := range list {
		m, e := memberByWords(z, most)
		if e != pouch.OK {
			return nil, e, i
		}
		members = append(members, m)
	}
	return members, pouch.OK, 0
}

func memberByWords(z zipped, most int) (pouch.Member, pouch.Errno) {
	if z.length > most {
		return pouch.Member{}, pouch.ErrMost
	}
	file := z.bytes
	if z.method == 8 {
		text, read, e := pouch.Inflate(z.bytes, 3000)
		if e != pouch.OK || read != len(z.bytes) || len(text) != z.length {
			return pouch.Member{}, pouch.ErrData
		}
		file = text
	}
	if crc32.ChecksumIEEE([]byte(file)) != z.sum {
		return pouch.Member{}, pouch.ErrCrc
	}
	tensor, e := pouch.ReadNpy(file)
	if e != pouch.OK {
		return pouch.Member{}, e
	}
	return pouch.Member{Name: strings.TrimSuffix(z.name, ".npy"), Packed: z.method == 8, Tensor: tensor}, pouch.OK
}

func mustLoad(t *testing.T, about, data string, most int, want []pouch.Member) {
	t.Helper()
	got, e, at := pouch.Load(data, most)
	if !sameMembers(got, want) || e != pouch.OK || at != 0 {
		t.Errorf("%s: Load(%.200q, %d) = %s, %d, %d, want %s, OK, 0", about, data, most, showMembers(got), e, at, showMembers(want))
	}
}

func mustNotLoad(t *testing.T, about, data string, most int, want pouch.Errno, place int) {
	t.Helper()
	got, e, at := pouch.Load(data, most)
	if len(got) != 0 || e != want || at != place {
		t.Errorf("%s: Load(%.200q, %d) = %s, %d, %d, want nothing, %d, %d", about, data, most, showMembers(got), e, at, want, place)
	}
}

func mustBeNoArchive(t *testing.T, about, data string) {
	t.Helper()
	for _, most := range []int{0, 3000} {
		mustNotLoad(t, about, data, most, pouch.ErrZip, 0)
	}
}

// mustLoadByWords answers whether there were members or an error behind ErrZip.
func mustLoadByWords(t *testing.T, about, data string, most int) bool {
	t.Helper()
	want, e, at := loadByWords(data, most)
	if e == pouch.OK {
		mustLoad(t, about, data, most, want)
	} else {
		mustNotLoad(t, about, data, most, e, at)
	}
	return e != pouch.ErrZip
}
