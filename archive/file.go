package archive

import (
	"strings"

	"pouch/crc"
	"pouch/flate"
	"pouch/npy"
)

func (p part) member(most int) (Member, error) {
	file, err := p.file(most)
	if err != nil {
		return Member{}, err
	}
	t, err := npy.Read(file)
	if err != nil {
		return Member{}, err
	}
	return Member{Name: strings.Clone(p.name), Packed: p.method == packed, Tensor: t}, nil
}

func (p part) file(most int) (string, error) {
	if p.length > uint64(most) {
		return "", ErrMost
	}
	file, err := p.unpacked()
	if err != nil {
		return "", err
	}
	if uint64(crc.Sum(file)) != p.sum {
		return "", ErrSum
	}
	return file, nil
}

// unpacked wants no more bytes than the file is said to have, so that a stream that stands for more is given up early.
func (p part) unpacked() (string, error) {
	if p.method == stored {
		return p.bytes, nil
	}
	file, read, err := flate.Inflate(p.bytes, int(p.length))
	switch {
	case err != nil:
		return "", &PackedError{Err: err}
	case read < len(p.bytes):
		return "", &PackedError{Err: errBehind}
	case uint64(len(file)) < p.length:
		return "", &PackedError{Err: errFew}
	}
	return file, nil
}
