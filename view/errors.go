package view

import "errors"

// The rules that a view may break, beside those of a shape.
var (
	errStrides = errors.New("not as many strides as the shape has numbers")
	errWidth   = errors.New("a width that no item has")
	errMany    = errors.New("more bytes than may be viewed")
	errFrom    = errors.New("a beginning that is not in the bytes")
	errFar     = errors.New("a stride that leads beyond all bytes")
	errOutside = errors.New("an item that does not lie in the bytes")
)

// Error tells that something is no view of the bytes: all broken rules are one kind of error to a caller.
type Error struct {
	Rule error
}

func (e *Error) Error() string {
	return "no view: " + e.Rule.Error()
}

func (e *Error) Unwrap() error {
	return e.Rule
}
