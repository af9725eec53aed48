// Package npy writes and reads tensors' files.
package npy

import (
	"strconv"
	"strings"

	"pouch/number"
	"pouch/tensor"
)

const (
	magic = "\x93NUMPY"
	// The file's beginning is a multiple of this many bytes, so that the items may be used where they lie.
	alignment = 64
)

// Write answers the tensor's file, or, if the tensor is none, a *tensor.Error.
func Write(t tensor.Tensor) (string, error) {
	if err := t.Check(); err != nil {
		return "", err
	}
	const ahead = len(magic) + versionBytes + shortLength
	head := headText(t)
	size := len(head) + len("\n")
	blanks := (alignment - (ahead+size)%alignment) % alignment
	size += blanks
	var out strings.Builder
	out.WriteString(magic)
	out.WriteString("\x01\x00")
	out.WriteString(number.Bytes(shortLength, uint64(size)))
	out.WriteString(head)
	out.WriteString(strings.Repeat(" ", blanks))
	out.WriteString("\n")
	out.WriteString(t.Data)
	return out.String(), nil
}

func headText(t tensor.Tensor) string {
	order := "False"
	if t.Fortran {
		order = "True"
	}
	return "{'descr': '" + t.Kind + "', 'fortran_order': " + order + ", 'shape': (" + shapeText(t.Shape) + "), }"
}

func shapeText(shape []int) string {
	if len(shape) == 1 {
		return strconv.Itoa(shape[0]) + ","
	}
	var numbers []string
	for _, number := range shape {
		numbers = append(numbers, strconv.Itoa(number))
	}
	return strings.Join(numbers, ", ")
}
