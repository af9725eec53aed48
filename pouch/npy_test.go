package pouch_test

import (
	"fmt"
	"math"
	"slices"
	"strings"
	"testing"

	"pouch/pouch"
)

// kinds are all kinds of items, and how wide they are.
func kinds() map[string]int {
	return map[string]int{
		"|b1": 1, "|i1": 1, "|u1": 1,
		"<i2": 2, "<i4": 4, "<i8": 8, "<u2": 2, "<u4": 4, "<u8": 8, "<f2": 2, "<f4": 4, "<f8": 8, "<c8": 8, "<c16": 16,
		">i2": 2, ">i4": 4, ">i8": 8, ">u2": 2, ">u4": 4, ">u8": 8, ">f2": 2, ">f4": 4, ">f8": 8, ">c8": 8, ">c16": 16,
	}
}

func sameTensor(a, b pouch.Tensor) bool {
	return a.Kind == b.Kind && slices.Equal(a.Shape, b.Shape) && a.Fortran == b.Fortran && a.Data == b.Data
}

func show(t pouch.Tensor) string {
	return fmt.Sprintf("{%.40q %.60v %t %d bytes %.40q}", t.Kind, fmt.Sprint(t.Shape), t.Fortran, len(t.Data), t.Data)
}

// mustWrite holds a file against the wanted one, and ReadNpy to it; no list may be changed (P2).
func mustWrite(t *testing.T, about string, tensor pouch.Tensor, want string) {
	t.Helper()
	shape := slices.Clone(tensor.Shape)
	file, e := pouch.Npy(tensor)
	if file != want || e != pouch.OK {
		t.Errorf("%s: Npy(%s) = %q, %d, want %q, OK", about, show(tensor), file, e, want)
	}
	if !slices.Equal(shape, tensor.Shape) {
		t.Errorf("%s: Npy changed the shape %v to %v", about, shape, tensor.Shape)
	}
	mustRead(t, about, file, tensor)
}

func mustNotWrite(t *testing.T, about string, tensor pouch.Tensor) {
	t.Helper()
	if file, e := pouch.Npy(tensor); file != "" || e != pouch.ErrTensor {
		t.Errorf("%s: Npy(%s) = %.200q, %d, want nothing and ErrTensor", about, show(tensor), file, e)
	}
}

// fileByWords is the file of P10.
func fileByWords(tensor pouch.Tensor) string {
	order := "False"
	if tensor.Fortran {
		order = "True"
	}
	shape := ""
	for i, number := range tensor.Shape {
		if i > 0 {
			shape += ", "
		}
		shape += fmt.Sprint(number)
	}
	if len(tensor.Shape) == 1 {
		shape += ","
	}
	head := fmt.Sprintf("{'descr': '%s', 'fortran_order': %s, 'shape': (%s), }", tensor.Kind, order, shape)
	for (10+len(head)+1)%64 != 0 {
		head += " "
	}
	head += "\n"
	return fmt.Sprintf("\x93NUMPY\x01\x00%c\x00%s%s", rune(len(head)), head, tensor.Data)
}

func TestNpyByTheEye(t *testing.T) {
	for _, c := range []struct {
		tensor pouch.Tensor
		head   string
	}{
		{pouch.Tensor{Kind: "|b1", Shape: nil, Data: "\x01"}, "{'descr': '|b1', 'fortran_order': False, 'shape': (), }"},
		{pouch.Tensor{Kind: "<i2", Shape: []int{3}, Data: "abcdef"}, "{'descr': '<i2', 'fortran_order': False, 'shape': (3,), }"},
		{pouch.Tensor{Kind: ">c16", Shape: []int{0, 9999}, Fortran: true}, "{'descr': '>c16', 'fortran_order': True, 'shape': (0, 9999), }"},
		{pouch.Tensor{Kind: "|u1", Shape: []int{10, 3, 2, 1}, Data: strings.Repeat("\x00\n\xff{", 15)}, "{'descr': '|u1', 'fortran_order': False, 'shape': (10, 3, 2, 1), }"},
		{pouch.Tensor{Kind: "<f8", Shape: []int{9999, 9999, 9999, 0}}, "{'descr': '<f8', 'fortran_order': False, 'shape': (9999, 9999, 9999, 0), }"},
	} {
		blanks := strings.Repeat(" ", 128-10-len(c.head)-1)
		mustWrite(t, "P10", c.tensor, "\x93NUMPY\x01\x00\x76\x00"+c.head+blanks+"\n"+c.tensor.Data)
	}
}

func TestNpyEachKind(t *testing.T) {
	shapes := [][]int{nil, {}, {0}, {1}, {2}, {18}, {0, 0}, {3, 2}, {1, 18}, {2, 3, 3}, {1, 0, 10}, {2, 1, 3, 3}, {9999, 100, 0, 99}}
	for kind, width := range kinds() {
		for _, shape := range shapes {
			items := 1
			for _, number := range shape {
				items *= number
			}
			for _, fortran := range []bool{false, true} {
				tensor := pouch.Tensor{Kind: kind, Shape: shape, Fortran: fortran, Data: manyBytes(items * width)}
				mustWrite(t, "P10: each kind", tensor, fileByWords(tensor))
				mustBeOfTheSize(t, tensor)
			}
		}
	}
}

// mustBeOfTheSize holds to it that no other number of bytes makes a tensor.
func mustBeOfTheSize(t *testing.T, tensor pouch.Tensor) {
	t.Helper()
	right := len(tensor.Data)
	for _, size := range []int{0, right / 2, right - 1, right + 1, 2 * right, 300, 301} {
		if size < 0 || size == right {
			continue
		}
		tensor.Data = manyBytes(size)
		mustNotWrite(t, "P9: other bytes", tensor)
	}
}

func TestNpyNoKind(t *testing.T) {
	known := kinds()
	data := manyBytes(16)
	check := func(kind string) {
		if known[kind] > 0 {
			return
		}
		for size := range len(data) + 1 {
			mustNotWrite(t, "P9: no kind", pouch.Tensor{Kind: kind, Data: data[:size]})
		}
		mustNotWrite(t, "P9: no kind, no items", pouch.Tensor{Kind: kind, Shape: []int{0}})
	}
	for _, kind := range []string{"", "|", "|b", "b1", "u1", "i4", "<", "<i", "<i04", "<i32", "<f16", "<f1", "|f1", "<c4", "<c32", "<b1", "|b2", "|b0", "|u16", "=i4", "<S4", "<U1", "|O1", "|i+1", "<i+2", "<c016", "<c16 ", " <c8", strings.Repeat("<", 100000)} {
		check(kind)
	}
	for kind := range known {
		for at := range kind {
			check(kind[:at] + kind[at+1:])
			for b := range 256 {
				check(kind[:at] + string([]byte{byte(b)}) + kind[at+1:])
			}
		}
		for at := range len(kind) + 1 {
			for _, b := range "\x00 |<>biufc0123456789'\n" {
				check(kind[:at] + string(b) + kind[at:])
			}
		}
	}
	for _, sign := range "|<>=" {
		for _, letter := range "biufcSUVOmMaB?" {
			for width := range 129 {
				check(fmt.Sprintf("%c%c%d", sign, letter, width))
			}
		}
	}
}

func TestNpyNoShape(t *testing.T) {
	mustNotWrite(t, "P9: five numbers", pouch.Tensor{Kind: "|u1", Shape: []int{1, 1, 1, 1, 1}, Data: "a"})
	mustNotWrite(t, "P9: five numbers, no items", pouch.Tensor{Kind: "|u1", Shape: make([]int, 5)})
	mustNotWrite(t, "P9: many numbers", pouch.Tensor{Kind: "|u1", Shape: make([]int, 100000)})
	for _, wrong := range []int{-1, -2, -300, 10000, 10001, 1 << 31, 1 << 32, 1<<32 + 1, 1 << 62, math.MaxInt, math.MinInt} {
		for _, data := range []string{"", "a", "ab"} {
			mustNotWrite(t, "P9: a wrong number", pouch.Tensor{Kind: "|u1", Shape: []int{wrong}, Data: data})
			mustNotWrite(t, "P9: a wrong number ahead of 0", pouch.Tensor{Kind: "|u1", Shape: []int{wrong, 0}, Data: data})
			mustNotWrite(t, "P9: a wrong number behind 0", pouch.Tensor{Kind: "|u1", Shape: []int{0, wrong}, Data: data})
			mustNotWrite(t, "P9: a wrong number twice", pouch.Tensor{Kind: "|u1", Shape: []int{wrong, wrong}, Data: data})
			mustNotWrite(t, "P9: a wrong number twice and 2", pouch.Tensor{Kind: "<u2", Shape: []int{wrong, 2, wrong}, Data: data})
		}
	}
}

func TestNpyAtMost300Bytes(t *testing.T) {
	for kind, width := range kinds() {
		most := 300 / width
		fits := pouch.Tensor{Kind: kind, Shape: []int{most}, Data: manyBytes(most * width)}
		mustWrite(t, "P9: as many as there may be", fits, fileByWords(fits))
		mustNotWrite(t, "P9: one more", pouch.Tensor{Kind: kind, Shape: []int{most + 1}, Data: manyBytes((most + 1) * width)})
	}
	fits := pouch.Tensor{Kind: "|b1", Shape: []int{2, 3, 5, 10}, Data: manyBytes(300)}
	mustWrite(t, "P9: 300 items", fits, fileByWords(fits))
	mustNotWrite(t, "P9: 9999 items", pouch.Tensor{Kind: "|b1", Shape: []int{9999}, Data: manyBytes(9999)})
	mustNotWrite(t, "P9: all items", pouch.Tensor{Kind: "<c16", Shape: []int{9999, 9999, 9999, 9999}})
	mustNotWrite(t, "P9: a million bytes", pouch.Tensor{Kind: "|b1", Shape: []int{1000, 1000}, Data: strings.Repeat("a", 1000000)})
	mustNotWrite(t, "P9: nothing", pouch.Tensor{})
}
