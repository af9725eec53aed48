package pouch_test

import (
	"archive/zip"
	"bytes"
	"math"
	"math/rand"
	"slices"
	"strings"
	"testing"

	"pouch/pouch"
)

// blankFile is a file of so many bytes, most of which are blanks of its head.
func blankFile(size int) (string, pouch.Tensor) {
	const signs = "{'descr':'|u1','fortran_order':False,'shape':(2,)}\n"
	file := npyFile(1, strings.Repeat(" ", size-12-len(signs))+signs, "ab")
	return file, pouch.Tensor{Kind: "|u1", Shape: []int{2}, Data: "ab"}
}

// archiveOfSize has one member, which is not packed.
func archiveOfSize(size int) (string, pouch.Member) {
	file, tensor := blankFile(size - len(archiveByWords(zipFile("a", ""))))
	return archiveByWords(zipFile("a", file)), pouch.Member{Name: "a", Tensor: tensor}
}

func TestLoadLength(t *testing.T) {
	for _, size := range []int{2999, 3000} {
		data, member := archiveOfSize(size)
		if len(data) != size {
			t.Fatalf("an archive of %d bytes, not of %d", len(data), size)
		}
		mustLoad(t, "P14: long data", data, 3000, []pouch.Member{member})
	}
	long, _ := archiveOfSize(3001)
	for _, data := range []string{long, strings.Repeat("x", 3001), strings.Repeat("PK\x03\x04", 100000)} {
		for _, most := range append(anyNumbers(), 3000, 3001) {
			mustNotLoad(t, "P14: too long", data, most, pouch.ErrLong, 0)
		}
	}
}

func TestLoadMost(t *testing.T) {
	data, member := archiveOfSize(200)
	for _, most := range []int{-1, 3001, 3002, math.MinInt, math.MaxInt, 1 << 32, -1 << 32} {
		for _, data := range []string{data, "", "no archive", archiveByWords(), strings.Repeat("x", 3000)} {
			mustNotLoad(t, "P14: a most that may not be", data, most, pouch.ErrArg, 0)
		}
	}
	mustLoad(t, "P14: the greatest most", data, 3000, []pouch.Member{member})
	mustLoad(t, "P14: the least most", archiveByWords(), 0, nil)
	mustNotLoad(t, "P15: the least most", data, 0, pouch.ErrMost, 0)
	mustBeNoArchive(t, "P14: no archive", "")
}

func TestLoadMembers(t *testing.T) {
	all := someMembers()
	for first := range all {
		for last := first; last <= len(all); last++ {
			mustLoad(t, "P15: members", archiveByWords(zipMembers(t, all[first:last])...), 3000, all[first:last])
		}
	}
}

func TestLoadAnswersNewMemory(t *testing.T) {
	data := archiveByWords(zipMembers(t, someMembers())...)
	first, _, _ := pouch.Load(data, 3000)
	second, _, _ := pouch.Load(data, 3000)
	for i := range first {
		shape := first[i].Tensor.Shape
		for axis := range cap(shape) {
			shape[:cap(shape)][axis] = 77
		}
		if !sameMembers(first[i+1:], someMembers()[i+1:]) {
			t.Errorf("P2: a changed shape changed another one: %s", showMembers(first))
		}
		first[i] = pouch.Member{}
	}
	if !sameMembers(second, someMembers()) {
		t.Errorf("P2: a changed answer changed another one: %s", showMembers(second))
	}
	mustLoad(t, "P2: again", data, 3000, someMembers())
}

func TestLoadMoreThanFourMembers(t *testing.T) {
	var list []zipped
	for count, name := range []string{"a", "b", "c", "d", "e", "f"} {
		data := archiveByWords(list...)
		if count <= 4 {
			mustLoad(t, "P14: up to four members", data, 3000, smallMembers([]string{"a", "b", "c", "d"}[:count]...))
		} else {
			mustBeNoArchive(t, "P14: more than four members", data)
		}
		list = append(list, zipMember(t, smallMember(name)))
	}
}

// TestLoadFilesLongerThanMost holds each most to files of 131, 144 and 3000 bytes.
func TestLoadFilesLongerThanMost(t *testing.T) {
	longest, tensor := blankFile(3000)
	list := []pouch.Member{
		{Name: "a", Tensor: pouch.Tensor{Kind: "|u1", Shape: []int{3}, Data: "abc"}},
		{Name: "b", Packed: true, Tensor: pouch.Tensor{Kind: "<i4", Shape: []int{4}, Data: "0123456789abcdef"}},
	}
	data := archiveByWords(append(zipMembers(t, list), zipPacked(t, "c", longest))...)
	list = append(list, pouch.Member{Name: "c", Packed: true, Tensor: tensor})
	for most := range 3001 {
		switch {
		case most < 131:
			mustNotLoad(t, "P15: most", data, most, pouch.ErrMost, 0)
		case most < 144:
			mustNotLoad(t, "P15: most", data, most, pouch.ErrMost, 1)
		case most < 3000:
			mustNotLoad(t, "P15: most", data, most, pouch.ErrMost, 2)
		default:
			mustLoad(t, "P15: most", data, most, list)
		}
	}
}

func TestLoadLengthsThatNoFileHas(t *testing.T) {
	z := zipPacked(t, "a", fileByWords(smallTensor()))
	for _, length := range []int{3001, 4096, 1<<16 - 1, 1 << 31, 1<<32 - 1} {
		z.length = length
		mustNotLoad(t, "P15: longer than any file", archiveByWords(z), 3000, pouch.ErrMost, 0)
		mustNotLoad(t, "P15: longer than any file", archiveByWords(zipFile("b", fileByWords(smallTensor())), z), 3000, pouch.ErrMost, 1)
	}
}

// mustNotUnpack tries a member on its own, and behind a right one.
func mustNotUnpack(t *testing.T, about string, z zipped, most int, want pouch.Errno) {
	t.Helper()
	mustNotLoad(t, about, archiveByWords(z), most, want, 0)
	mustNotLoad(t, about, archiveByWords(zipFile("first", ""), z), most, pouch.ErrNpy, 0)
	file := fileByWords(pouch.Tensor{Kind: "|u1", Shape: []int{0}})
	if len(file) <= most {
		mustNotLoad(t, about, archiveByWords(zipFile("first", file), z), most, want, 1)
	}
}

func TestLoadPackedBytes(t *testing.T) {
	tensor := pouch.Tensor{Kind: "<f8", Shape: []int{4, 4}, Data: strings.Repeat("\x00\x00\x00\x00\x00\x00\xf0\x3f", 16)}
	file := fileByWords(tensor)
	for level := -2; level <= 9; level++ {
		z := zipPacked(t, "a", file)
		z.bytes = deflated(t, file, level)
		mustLoad(t, "P15: another's stream", archiveByWords(z), len(file), []pouch.Member{{Name: "a", Packed: true, Tensor: tensor}})
		mustNotUnpackCut(t, z)
		for _, more := range []string{"\x00", "\xff", "\x03\x00", z.bytes} {
			grown := z
			grown.bytes += more
			mustNotUnpack(t, "P15: something behind the stream", grown, 3000, pouch.ErrData)
		}
		for _, length := range []int{0, 1, len(file) - 1, len(file) + 1, 2999, 3000} {
			told := z
			told.length = length
			mustNotUnpack(t, "P15: another length", told, 3000, pouch.ErrData)
			mustNotUnpack(t, "P15: another length, just wanted", told, length, pouch.ErrData)
		}
	}
}

func mustNotUnpackCut(t *testing.T, z zipped) {
	t.Helper()
	for i := range z.bytes {
		cut := z
		cut.bytes = z.bytes[:i]
		mustNotUnpack(t, "P15: a stream cut short", cut, 3000, pouch.ErrData)
		mustNotUnpack(t, "P15: a stream cut short", cut, cut.length, pouch.ErrData)
	}
}

func TestLoadBytesThatAreNoStream(t *testing.T) {
	file := fileByWords(smallTensor())
	for _, stream := range []string{
		"",
		"\x07",
		file,
		strings.Repeat("\xff", 50),
		deflated(t, strings.Repeat("a", 3000), 9),
		deflated(t, strings.Repeat("a", 3001), 9),
		deflated(t, strings.Repeat("a", 100000), 9),
		deflated(t, "", 9),
	} {
		z := zipPacked(t, "a", file)
		z.bytes = stream
		mustNotUnpack(t, "P15: no stream of the file", z, 3000, pouch.ErrData)
		mustNotUnpack(t, "P15: no stream of the file", z, z.length, pouch.ErrData)
		mustNotUnpack(t, "P15: no stream of the file, and too long", z, z.length-1, pouch.ErrMost)
	}
}

func TestLoadStreamsOfManyBlocks(t *testing.T) {
	file := fileByWords(smallTensor())
	z := zipPacked(t, "a", file)
	blocks := ""
	for i := range file {
		blocks += "\x00\x01\x00\xfe\xff" + file[i:i+1]
	}
	z.bytes = blocks + "\x01\x00\x00\xff\xff"
	mustLoad(t, "P15: many blocks", archiveByWords(z), 3000, []pouch.Member{{Name: "a", Packed: true, Tensor: smallTensor()}})
	z.bytes = blocks
	mustNotUnpack(t, "P15: no last block", z, 3000, pouch.ErrData)
}

// TestLoadPackedBytesAsLongAsTheFile has streams that empty blocks make as long as what they stand for, or longer.
func TestLoadPackedBytesAsLongAsTheFile(t *testing.T) {
	const emptyBlock = "\x00\x00\x00\xff\xff"
	same := 0
	for size := 100; size < 110; size++ {
		file, tensor := blankFile(size)
		z := zipPacked(t, "a", file)
		for len(z.bytes) < size+10 {
			z.bytes = emptyBlock + z.bytes
			mustLoad(t, "P15: a long stream", archiveByWords(z), size, []pouch.Member{{Name: "a", Packed: true, Tensor: tensor}})
			if len(z.bytes) == size {
				same++
			}
		}
	}
	if same == 0 {
		t.Error("no stream was as long as its file")
	}
}

func TestLoadSums(t *testing.T) {
	for _, packed := range []bool{false, true} {
		right := zipMember(t, pouch.Member{Name: "a", Packed: packed, Tensor: smallTensor()})
		for bit := range 32 {
			z := right
			z.sum ^= 1 << bit
			mustNotUnpack(t, "P15: another sum", z, 3000, pouch.ErrCrc)
		}
		z := right
		z.sum = 0
		mustNotUnpack(t, "P15: no sum", z, 3000, pouch.ErrCrc)
	}
	right := zipFile("a", fileByWords(smallTensor()))
	for i := range right.bytes {
		z := right
		z.bytes = right.bytes[:i] + string([]byte{right.bytes[i] ^ 4}) + right.bytes[i+1:]
		mustNotUnpack(t, "P15: another file", z, 3000, pouch.ErrCrc)
	}
}

func TestLoadFilesOfNoTensor(t *testing.T) {
	file := fileByWords(smallTensor())
	for _, none := range []string{"", "a", file[:len(file)-1], file + "a", file[1:], strings.Replace(file, "<i2", "<i3", 1), strings.Repeat("x", 2000)} {
		mustNotUnpack(t, "P15: no tensor's file", zipFile("a", none), 2000, pouch.ErrNpy)
		mustNotUnpack(t, "P15: no tensor's file", zipPacked(t, "a", none), 2000, pouch.ErrNpy)
	}
}

func TestLoadFilesThatOthersWrote(t *testing.T) {
	for version := 1; version <= 3; version++ {
		file := npyFile(version, strings.Join(headSigns(), " "), "abcd")
		mustLoad(t, "P15: another's files", archiveByWords(zipFile("a", file), zipPacked(t, "b", file)), 3000, []pouch.Member{
			{Name: "a", Tensor: ofHeadSigns()},
			{Name: "b", Packed: true, Tensor: ofHeadSigns()},
		})
	}
}

// wrongMember has each of the faults that are asked for: told longer than 200 bytes, a stream that ends too late, another sum, no tensor's file.
func wrongMember(t *testing.T, name string, packed, long, noStream, otherSum, noFile bool) (zipped, pouch.Errno) {
	t.Helper()
	file := fileByWords(pouch.Tensor{Kind: "|u1", Shape: []int{3}, Data: "abc"})
	if long {
		file = fileByWords(pouch.Tensor{Kind: "|u1", Shape: []int{73}, Data: manyBytes(73)})
	}
	if noFile {
		file = "\x92" + file[1:]
	}
	z := zipFile(name, file)
	if packed {
		z = zipPacked(t, name, file)
	}
	if noStream {
		z.bytes += "\x00"
	}
	if otherSum {
		z.sum++
	}
	switch {
	case long:
		return z, pouch.ErrMost
	case noStream:
		return z, pouch.ErrData
	case otherSum:
		return z, pouch.ErrCrc
	case noFile:
		return z, pouch.ErrNpy
	}
	return z, pouch.OK
}

func wrongMembers(t *testing.T, name string) ([]zipped, []pouch.Errno) {
	t.Helper()
	var list []zipped
	var errnos []pouch.Errno
	for faults := range 32 {
		packed := faults&16 != 0
		if faults&2 != 0 && !packed {
			continue
		}
		z, e := wrongMember(t, name, packed, faults&1 != 0, faults&2 != 0, faults&4 != 0, faults&8 != 0)
		list = append(list, z)
		errnos = append(errnos, e)
	}
	return list, errnos
}

func TestLoadSeveralErrors(t *testing.T) {
	firsts, firstErrnos := wrongMembers(t, "a")
	seconds, secondErrnos := wrongMembers(t, "b")
	right, _ := wrongMember(t, "c", true, false, false, false, false)
	for i, first := range firsts {
		for j, second := range seconds {
			want, place := firstErrnos[i], 0
			if want == pouch.OK {
				want, place = secondErrnos[j], 1
			}
			data := archiveByWords(first, second)
			behind := archiveByWords(right, first, second)
			if want == pouch.OK {
				mustLoadByWords(t, "P15: nothing wrong", data, 200)
				mustLoadByWords(t, "P15: nothing wrong", behind, 200)
				continue
			}
			mustNotLoad(t, "P15: several errors", data, 200, want, place)
			mustNotLoad(t, "P15: several errors", behind, 200, want, place+1)
			mustNotLoad(t, "P14: no archive, ahead of all", data+"\x00", 200, pouch.ErrZip, 0)
			mustNotLoad(t, "P14: ErrArg, ahead of all", data, -1, pouch.ErrArg, 0)
		}
	}
}

// TestLoadWhatOthersWrote has an archive that another program lays out.
func TestLoadWhatOthersWrote(t *testing.T) {
	var b bytes.Buffer
	w := zip.NewWriter(&b)
	for _, z := range zipMembers(t, someMembers()) {
		out, err := w.CreateRaw(&zip.FileHeader{
			Name: z.name, Method: uint16(z.method), ModifiedDate: 33, CreatorVersion: 20, ReaderVersion: 20,
			CRC32: z.sum, CompressedSize64: uint64(len(z.bytes)), UncompressedSize64: uint64(z.length),
		})
		if err != nil {
			t.Fatal(err)
		}
		if _, err := out.Write([]byte(z.bytes)); err != nil {
			t.Fatal(err)
		}
	}
	if err := w.Close(); err != nil {
		t.Fatal(err)
	}
	mustLoad(t, "P15: another's archive", b.String(), 3000, someMembers())
}

// TestLoadByWords spoils archives at random, and holds Load to what the words say of them.
func TestLoadByWords(t *testing.T) {
	random := rand.New(rand.NewSource(14))
	right := zipMembers(t, someMembers())
	told := 0
	for range 4000 {
		list := slices.Clone(right)
		for range random.Intn(3) {
			spoilMember(random, &list[random.Intn(len(list))])
		}
		random.Shuffle(len(list), func(i, j int) { list[i], list[j] = list[j], list[i] })
		data := []byte(archiveByWords(list[:random.Intn(5)]...))
		if random.Intn(4) == 0 {
			data[random.Intn(len(data))] ^= 1 << random.Intn(8)
		}
		if mustLoadByWords(t, "P14, P15: by words", string(data), []int{0, 128, 131, 160, 3000}[random.Intn(5)]) {
			told++
		}
	}
	if told < 1000 {
		t.Errorf("only %d archives to speak of", told)
	}
}

// spoilMember leaves the layout of the archive as it is, most times.
func spoilMember(random *rand.Rand, z *zipped) {
	switch random.Intn(7) {
	case 0:
		z.sum ^= 1 << random.Intn(32)
	case 1:
		z.length += random.Intn(3) - 1
	case 2:
		z.method = []int{0, 8, 1, 264}[random.Intn(4)]
	case 3:
		z.bytes += "\x00"
	case 4:
		z.bytes = z.bytes[:random.Intn(len(z.bytes)+1)]
	case 5:
		b := []byte(z.bytes + "\x00")
		b[random.Intn(len(b))] ^= 1 << random.Intn(8)
		z.bytes = string(b[:len(z.bytes)])
	case 6:
		z.name = []string{"a.npy", "b.npy", "B.npy", "b", ".npy", "b.npy.npy"}[random.Intn(6)]
	}
}
