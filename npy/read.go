package npy

import (
	"strings"

	"pouch/number"
	"pouch/tensor"
)

const (
	versionBytes = 2
	shortLength  = 2
	longLength   = 4
)

// Read answers the tensor of a file, or a *FileError.
func Read(data string) (tensor.Tensor, error) {
	t, err := read(data)
	if err != nil {
		return tensor.Tensor{}, &FileError{Err: err}
	}
	return t, nil
}

func read(data string) (tensor.Tensor, error) {
	head, items, err := split(data)
	if err != nil {
		return tensor.Tensor{}, err
	}
	t, err := readHead(head)
	if err != nil {
		return tensor.Tensor{}, err
	}
	t.Data = strings.Clone(items)
	return t, t.Check()
}

// split parts a file into its head and its items' bytes.
func split(data string) (head, items string, err error) {
	rest, found := strings.CutPrefix(data, magic)
	if !found {
		return "", "", errMagic
	}
	if len(rest) < versionBytes || rest[1] != 0 {
		return "", "", errVersion
	}
	size, err := lengthBytes(rest[0])
	if err != nil {
		return "", "", err
	}
	rest = rest[versionBytes:]
	if len(rest) < size {
		return "", "", errShort
	}
	length := number.Of(rest[:size])
	rest = rest[size:]
	if length > uint64(len(rest)) {
		return "", "", errShort
	}
	return rest[:length], rest[length:], nil
}

// lengthBytes tells how many bytes a version has for the head's length: a newer one has those of the older ones, and perhaps more.
func lengthBytes(version byte) (int, error) {
	size := 0
	switch version {
	case 3:
		// Version 3 lets a head have other letters, which no tensor's head needs.
		fallthrough
	case 2:
		size += longLength - shortLength
		fallthrough
	case 1:
		size += shortLength
	default:
		return 0, errVersion
	}
	return size, nil
}
