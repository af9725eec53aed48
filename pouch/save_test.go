package pouch_test

import (
	"archive/zip"
	"io"
	"math/rand"
	"slices"
	"strings"
	"testing"

	"pouch/pouch"
)

func cloneMembers(list []pouch.Member) []pouch.Member {
	out := slices.Clone(list)
	for i := range out {
		out[i].Tensor.Shape = slices.Clone(out[i].Tensor.Shape)
	}
	return out
}

// mustSave holds an archive against P14's words, and its members against P13's; no list may be changed (P2).
func mustSave(t *testing.T, about string, list []pouch.Member) string {
	t.Helper()
	before := cloneMembers(list)
	data, e, at := pouch.Save(list)
	if e != pouch.OK || at != 0 {
		t.Errorf("%s: Save(%s) = %d, %d, want OK, 0", about, showMembers(list), e, at)
	}
	if !sameMembers(list, before) {
		t.Errorf("%s: Save changed %s to %s", about, showMembers(before), showMembers(list))
	}
	parts, ok := backwardsByWords(data)
	if !ok || len(parts) != len(list) {
		t.Errorf("%s: Save(%s) = %q, %d parts", about, showMembers(list), data, len(parts))
		return data
	}
	for i, m := range list {
		mustBePartOf(t, about, parts[i], m)
	}
	mustLoad(t, about, data, 3000, list)
	return data
}

func mustBePartOf(t *testing.T, about string, part zipped, m pouch.Member) {
	t.Helper()
	want := zipFile(m.Name, fileByWords(m.Tensor))
	if m.Packed {
		file, read, e := pouch.Inflate(part.bytes, 3000)
		if file != want.bytes || read != len(part.bytes) || e != pouch.OK {
			t.Errorf("%s: the packed bytes %q stand for %q, %d read, %d", about, part.bytes, file, read, e)
		}
		want.method = 8
		want.bytes = part.bytes
	}
	if part != want {
		t.Errorf("%s: a part of %v, want %v", about, part, want)
	}
}

func mustNotSave(t *testing.T, about string, list []pouch.Member, want pouch.Errno, place int) {
	t.Helper()
	before := cloneMembers(list)
	if data, e, at := pouch.Save(list); data != "" || e != want || at != place {
		t.Errorf("%s: Save(%s) = %.200q, %d, %d, want nothing, %d, %d", about, showMembers(list), data, e, at, want, place)
	}
	if !sameMembers(list, before) {
		t.Errorf("%s: Save changed %s to %s", about, showMembers(before), showMembers(list))
	}
}

func smallTensor() pouch.Tensor {
	return pouch.Tensor{Kind: "<i2", Shape: []int{1}, Data: "ab"}
}

func smallMember(name string) pouch.Member {
	return pouch.Member{Name: name, Tensor: smallTensor()}
}

func smallMembers(names ...string) []pouch.Member {
	var list []pouch.Member
	for _, name := range names {
		list = append(list, smallMember(name))
	}
	return list
}

func TestSaveByTheEye(t *testing.T) {
	file := "\x93NUMPY\x01\x00\x76\x00{'descr': '|u1', 'fortran_order': False, 'shape': (3,), }" + strings.Repeat(" ", 60) + "\nabc"
	common := "\x14\x00\x00\x00\x00\x00\x00\x00\x21\x00\xf5\x22\x16\xd1\x83\x00\x00\x00\x83\x00\x00\x00\x05\x00\x00\x00"
	want := "PK\x03\x04" + common + "a.npy" + file +
		"PK\x01\x02\x14\x00" + common + "\x00\x00\x00\x00\x00\x00\x00\x00\x00\x00" + "\x00\x00\x00\x00" + "a.npy" +
		"PK\x05\x06\x00\x00\x00\x00\x01\x00\x01\x00\x33\x00\x00\x00\xa6\x00\x00\x00\x00\x00"
	if data := mustSave(t, "P13: one member", someMembers()[:1]); data != want {
		t.Errorf("P14: one member: %q, want %q", data, want)
	}
}

func TestSaveNoMember(t *testing.T) {
	want := "PK\x05\x06" + strings.Repeat("\x00", 18)
	for _, list := range [][]pouch.Member{nil, {}} {
		if data := mustSave(t, "P13: no member", list); data != want {
			t.Errorf("P14: no member: %q, want %q", data, want)
		}
	}
	mustLoad(t, "P14: no member", want, 0, nil)
}

func TestSaveUpToFourMembers(t *testing.T) {
	all := someMembers()
	for first := range all {
		for last := first; last <= len(all); last++ {
			mustSave(t, "P13: some members", all[first:last])
		}
	}
	backwards := someMembers()
	slices.Reverse(backwards)
	mustSave(t, "P13: in their order", backwards)
}

func TestSaveMoreThanFourMembers(t *testing.T) {
	mustSave(t, "P13: four", smallMembers("a", "b", "c", "d"))
	for _, list := range [][]pouch.Member{
		smallMembers("a", "b", "c", "d", "e"),
		smallMembers("a", "a", "", "A", "e"),
		make([]pouch.Member, 5),
		make([]pouch.Member, 6),
		make([]pouch.Member, 100000),
	} {
		mustNotSave(t, "P13: more than four", list, pouch.ErrLong, 0)
	}
}

// mustSaveName tries a name in each place of a list.
func mustSaveName(t *testing.T, name string, ok bool) {
	t.Helper()
	for place := range 4 {
		list := smallMembers("other_0", "other_1", "other_2", "other_3")
		list[place].Name = name
		if ok {
			mustSave(t, "P13: a name", list)
		} else {
			mustNotSave(t, "P13: no name", list, pouch.ErrName, place)
		}
	}
}

func TestSaveNames(t *testing.T) {
	const signs = "abcdefghijklmnopqrstuvwxyz0123456789_"
	for b := range 256 {
		sign := string([]byte{byte(b)})
		ok := strings.Contains(signs, sign)
		for _, name := range []string{sign, sign + "a", "a" + sign, "0" + sign + "_", strings.Repeat(sign, 12), "abcdefghijk" + sign} {
			mustSaveName(t, name, ok)
		}
	}
	for count := range 30 {
		mustSaveName(t, strings.Repeat("z", count), count >= 1 && count <= 12)
	}
	for _, name := range []string{"a.npy", ".npy", "é", "ab c", "a/b", "a\\b", "a-b", "A", "\x00", strings.Repeat("a", 100000)} {
		mustSaveName(t, name, false)
	}
}

func TestSaveTheSameNameTwice(t *testing.T) {
	for second := 1; second < 4; second++ {
		for first := range second {
			list := smallMembers("a", "b", "c", "d")
			list[second].Name = list[first].Name
			mustNotSave(t, "P13: twice", list, pouch.ErrName, second)
			list[second].Packed = true
			list[second].Tensor = pouch.Tensor{Kind: "|u1", Data: "x"}
			mustNotSave(t, "P13: twice, with another tensor", list, pouch.ErrName, second)
		}
	}
	mustNotSave(t, "P13: three times", smallMembers("b", "a", "a", "a"), pouch.ErrName, 2)
	mustNotSave(t, "P13: two names twice", smallMembers("a", "b", "b", "a"), pouch.ErrName, 2)
	mustSave(t, "P13: names that begin alike", smallMembers("a", "aa", "a0", "aaa"))
}

func noTensors() []pouch.Tensor {
	return []pouch.Tensor{
		{},
		{Kind: "?"},
		{Kind: "<u1", Data: "a"},
		{Kind: "|u1", Data: ""},
		{Kind: "|u1", Data: "ab"},
		{Kind: "|u1", Shape: []int{-1}},
		{Kind: "|u1", Shape: []int{0, 10000}},
		{Kind: "|u1", Shape: []int{1, 1, 1, 1, 1}, Data: "a"},
		{Kind: "|u1", Shape: []int{301}, Data: strings.Repeat("a", 301)},
		{Kind: "<c16", Shape: []int{19}, Data: strings.Repeat("a", 304)},
	}
}

func TestSaveNoTensor(t *testing.T) {
	for _, none := range noTensors() {
		for place := range 4 {
			for _, packed := range []bool{false, true} {
				list := smallMembers("a", "b", "c", "d")
				list[place].Tensor = none
				list[place].Packed = packed
				mustNotSave(t, "P13: no tensor", list, pouch.ErrTensor, place)
			}
		}
	}
}

// TestSaveSeveralErrors has each of four members right, or wrong in its name, its tensor or both.
func TestSaveSeveralErrors(t *testing.T) {
	const right, noName, twice, noTensor, noneAndTensor, twiceAndTensor, faults = 0, 1, 2, 3, 4, 5, 6
	for choice := range faults * faults * faults * faults {
		list := smallMembers("a", "b", "c", "d")
		want, place := pouch.OK, 0
		for i, rest := 0, choice; i < 4; i, rest = i+1, rest/faults {
			e := pouch.OK
			switch fault := rest % faults; fault {
			case noName, noneAndTensor:
				list[i].Name = "a b"
				e = pouch.ErrName
			case twice, twiceAndTensor:
				list[i].Name = "a"
				if i > 0 {
					e = pouch.ErrName
				}
			}
			if rest%faults >= noTensor {
				list[i].Tensor.Data = "abc"
				if e == pouch.OK {
					e = pouch.ErrTensor
				}
			}
			if want == pouch.OK && e != pouch.OK {
				want, place = e, i
			}
		}
		if want == pouch.OK {
			mustSave(t, "P13: nothing wrong", list)
		} else {
			mustNotSave(t, "P13: several errors", list, want, place)
		}
	}
}

func TestSaveEachKindOfTensor(t *testing.T) {
	for kind, width := range kinds() {
		for _, shape := range [][]int{nil, {}, {0}, {1}, {2, 3}, {1, 0, 9999}, {9999, 0, 9999, 9999}, {1, 2, 1, 2}, {300 / width}} {
			items := 1
			for _, number := range shape {
				items *= number
			}
			tensor := pouch.Tensor{Kind: kind, Shape: shape, Data: manyBytes(items * width)}
			mirror := tensor
			mirror.Fortran = true
			mustSave(t, "P13: a tensor", []pouch.Member{
				{Name: "a", Tensor: tensor},
				{Name: "b", Packed: true, Tensor: tensor},
				{Name: "c", Tensor: mirror},
				{Name: "d", Packed: true, Tensor: mirror},
			})
		}
	}
}

func anyMember(random *rand.Rand, name string) pouch.Member {
	items := random.Intn(301)
	signs := []string{"\x00", "ab", "0123456789abcdef", row(0, 255)}[random.Intn(4)]
	data := someBytes(random.Int63(), items, signs)
	tensor := pouch.Tensor{Kind: "|i1", Shape: []int{items}, Fortran: random.Intn(2) == 0, Data: data}
	return pouch.Member{Name: name, Packed: random.Intn(2) == 0, Tensor: tensor}
}

func TestSaveAnyBytes(t *testing.T) {
	random := rand.New(rand.NewSource(13))
	for range 300 {
		var list []pouch.Member
		for _, name := range []string{"z", "abcdefghijkl", "_", "9"}[:random.Intn(5)] {
			list = append(list, anyMember(random, name))
		}
		mustSave(t, "P13: any bytes", list)
	}
}

func TestSaveForOthers(t *testing.T) {
	list := someMembers()
	data := mustSave(t, "P13: for others", list)
	reader, err := zip.NewReader(strings.NewReader(data), int64(len(data)))
	if err != nil || len(reader.File) != len(list) {
		t.Fatalf("another program does not read the archive: %v", err)
	}
	for i, m := range list {
		in, err := reader.File[i].Open()
		if err != nil {
			t.Fatal(err)
		}
		file, err := io.ReadAll(in)
		method := reader.File[i].Method
		if err != nil || string(file) != fileByWords(m.Tensor) || reader.File[i].Name != m.Name+".npy" || (method == zip.Deflate) != m.Packed {
			t.Errorf("P14: another program reads %q (method %d): %q, %v", reader.File[i].Name, method, file, err)
		}
	}
}

func TestSaveHangsOnArgumentsAlone(t *testing.T) {
	first := mustSave(t, "P2", someMembers())
	mustNotSave(t, "P2: between", make([]pouch.Member, 5), pouch.ErrLong, 0)
	if again := mustSave(t, "P2: again", someMembers()); again != first {
		t.Errorf("P2: %q, then %q", first, again)
	}
}
