// Package view goes through items that lie somewhere in bytes.
package view

import (
	"iter"
	"slices"
	"strings"

	"pouch/limit"
	"pouch/tensor"
)

const maxWidth = 16

// View tells where items lie, and in which order they are gone through: the last index quickest, or, if Fortran, the first one.
type View struct {
	Width   int
	From    int
	Shape   []int
	Strides []int
	Fortran bool
}

// IsWidth tells whether an item may have so many bytes.
func IsWidth(width int) bool {
	return width >= 1 && width <= maxWidth
}

// Take answers the items of the data, one behind the other, or an *Error.
func (v View) Take(data string) (string, error) {
	items, err := v.count(len(data))
	if err != nil {
		return "", &Error{Rule: err}
	}
	var out strings.Builder
	for place := range v.places(items) {
		if place < 0 || place > len(data)-v.Width {
			return "", &Error{Rule: errOutside}
		}
		out.WriteString(data[place : place+v.Width])
	}
	return out.String(), nil
}

// count tells how many items there are, if the view's numbers are small enough to go through all of them.
func (v View) count(size int) (int, error) {
	items, err := tensor.Items(v.Shape)
	switch {
	case err != nil:
		return 0, err
	case len(v.Strides) != len(v.Shape):
		return 0, errStrides
	case !IsWidth(v.Width):
		return 0, errWidth
	case items*v.Width > limit.Text:
		return 0, errMany
	case v.From < 0 || v.From > size:
		return 0, errFrom
	case items > 0 && v.leadsFar():
		return 0, errFar
	}
	return items, nil
}

// leadsFar asks only for strides that are ever gone: a single index leaves its stride unused, so that may be any number.
func (v View) leadsFar() bool {
	for axis, number := range v.Shape {
		stride := v.Strides[axis]
		if number > 1 && (stride > limit.Text || stride < -limit.Text) {
			return true
		}
	}
	return false
}

// places goes through the items: where each of them begins.
func (v View) places(items int) iter.Seq[int] {
	return func(yield func(int) bool) {
		for number := range items {
			if !yield(v.place(number)) {
				return
			}
		}
	}
}

// place takes an item's number apart into its indices, as a number is taken apart into digits.
func (v View) place(number int) int {
	place := v.From
	for axis, count := range v.quickestFirst() {
		place += number % count * v.Strides[axis]
		number /= count
	}
	return place
}

func (v View) quickestFirst() iter.Seq2[int, int] {
	if v.Fortran {
		return slices.All(v.Shape)
	}
	return slices.Backward(v.Shape)
}
