package tensor

import "errors"

// The rules that a tensor may break.
var (
	errKind  = errors.New("no kind of items")
	errRank  = errors.New("a shape of too many numbers")
	errDim   = errors.New("a number that no shape has")
	errMany  = errors.New("more bytes than a tensor may have")
	errBytes = errors.New("not as many bytes as the shape and the kind ask for")
)

// Error tells that something is no tensor: all broken rules are one kind of error to a caller.
type Error struct {
	Rule error
}

func (e *Error) Error() string {
	return "no tensor: " + e.Rule.Error()
}

func (e *Error) Unwrap() error {
	return e.Rule
}
