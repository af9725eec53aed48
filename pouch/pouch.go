// Package pouch packs tensors into archives: see DOC.md.
package pouch

import (
	"iter"

	"pouch/archive"
	"pouch/crc"
	"pouch/flate"
	"pouch/limit"
	"pouch/npy"
	"pouch/tensor"
	"pouch/view"
)

// Errno is what a call answers: OK or the reason for a refusal.
type Errno int

const (
	OK        Errno = 0
	ErrLong   Errno = 1  // above a bound
	ErrArg    Errno = 2  // a number that may not be
	ErrEnd    Errno = 3  // packed bytes that end too early
	ErrData   Errno = 4  // packed bytes that stand for nothing
	ErrMost   Errno = 5  // more than is wanted
	ErrView   Errno = 6  // a view that does not lie in its bytes
	ErrTensor Errno = 7  // no tensor
	ErrName   Errno = 8  // no name
	ErrZip    Errno = 9  // no archive
	ErrCrc    Errno = 10 // a sum that is another one
	ErrNpy    Errno = 11 // no tensor's file
)

// Tensor is items of a kind, in a shape: their bytes, the last index going quickest, or, if Fortran, the first one.
type Tensor struct {
	Kind    string
	Shape   []int
	Fortran bool
	Data    string
}

// Member is a tensor of an archive: its name, and whether it is packed.
type Member struct {
	Name   string
	Packed bool
	Tensor Tensor
}

// Crc is the CRC-32 of the bytes (P3).
func Crc(data string) int {
	return int(crc.Sum(data))
}

// Inflate unpacks (P4, P5).
func Inflate(data string, most int) (string, int, Errno) {
	if len(data) > limit.Archive {
		return "", 0, ErrLong
	}
	if most < 0 || most > limit.Out {
		return "", 0, ErrArg
	}
	text, read, err := flate.Inflate(data, most)
	if err != nil {
		return "", 0, errnoOf(err)
	}
	return text, read, OK
}

// Deflate packs (P6).
func Deflate(data string, level int) (string, Errno) {
	if len(data) > limit.Text {
		return "", ErrLong
	}
	if level < 0 || level > flate.MaxLevel {
		return "", ErrArg
	}
	return flate.Deflate(data, level), OK
}

// Take answers what a view shows (P7).
func Take(data string, width int, from int, shape []int, strides []int, fortran bool) (string, Errno) {
	if len(data) > limit.Text {
		return "", ErrLong
	}
	v := view.View{Width: width, From: from, Shape: shape, Strides: strides, Fortran: fortran}
	items, err := v.Take(data)
	return items, errnoOf(err)
}

// Turn turns each item's bytes round (P8).
func Turn(data string, width int) (string, Errno) {
	if len(data) > limit.Text {
		return "", ErrLong
	}
	if !view.IsWidth(width) || len(data)%width != 0 {
		return "", ErrArg
	}
	return view.Turn(data, width), OK
}

// Npy writes a tensor's file (P9, P10).
func Npy(t Tensor) (string, Errno) {
	file, err := npy.Write(tensor.Tensor(t))
	return file, errnoOf(err)
}

// ReadNpy reads one (P11, P12).
func ReadNpy(data string) (Tensor, Errno) {
	if len(data) > limit.Archive {
		return Tensor{}, ErrLong
	}
	t, err := npy.Read(data)
	return Tensor(t), errnoOf(err)
}

// Save writes an archive (P13).
func Save(list []Member) (string, Errno, int) {
	if len(list) > limit.Members {
		return "", ErrLong, 0
	}
	data, err := archive.Save(toSave(list))
	return data, errnoOf(err), placeOf(err)
}

func toSave(list []Member) iter.Seq[archive.Member] {
	return func(yield func(archive.Member) bool) {
		for _, m := range list {
			if !yield(archive.Member{Name: m.Name, Packed: m.Packed, Tensor: tensor.Tensor(m.Tensor)}) {
				return
			}
		}
	}
}

// Load reads one (P14, P15).
func Load(data string, most int) ([]Member, Errno, int) {
	if len(data) > limit.Archive {
		return nil, ErrLong, 0
	}
	if most < 0 || most > limit.Out {
		return nil, ErrArg, 0
	}
	var list []Member
	for m, err := range archive.Members(data, most) {
		if err != nil {
			return nil, errnoOf(err), placeOf(err)
		}
		list = append(list, Member{Name: m.Name, Packed: m.Packed, Tensor: Tensor(m.Tensor)})
	}
	return list, OK, 0
}
