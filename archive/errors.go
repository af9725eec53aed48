package archive

import (
	"errors"
	"strconv"
)

// ErrMost tells that a file is longer than is wanted, ErrSum that its sum is another one.
var (
	ErrMost = errors.New("a file that is longer than is wanted")
	ErrSum  = errors.New("a file of another sum")
)

// The rules that the bytes of an archive may break, beside those of names: each stands in a LayoutError.
var (
	errShort  = errors.New("an end inside a part")
	errMethod = errors.New("an unknown method")
	errLength = errors.New("a file that is not packed, of another length than its bytes")
	errMany   = errors.New("more members than there may be")
	errOther  = errors.New("bytes that do not go with the parts")
)

// The rules that a name may break: each stands in a NameError.
var (
	errNoName = errors.New("a text that no member may be called by")
	errTwice  = errors.New("a name that an earlier member has")
)

// What packed bytes may be wrong in, beside being no stream: each stands in a PackedError.
var (
	errBehind = errors.New("something behind the stream")
	errFew    = errors.New("a stream that stands for less than the file")
)

// LayoutError tells that something is no archive: all broken rules are one kind of error to a caller.
type LayoutError struct {
	Err error
}

func (e *LayoutError) Error() string {
	return "no archive: " + e.Err.Error()
}

func (e *LayoutError) Unwrap() error {
	return e.Err
}

// NameError tells that a member's name is none, or is another's.
type NameError struct {
	Rule error
}

func (e *NameError) Error() string {
	return "no name: " + e.Rule.Error()
}

func (e *NameError) Unwrap() error {
	return e.Rule
}

// PackedError tells that packed bytes do not stand for their file; why they do not is no caller's matter.
type PackedError struct {
	Err error
}

func (e *PackedError) Error() string {
	return "no packed file: " + e.Err.Error()
}

func (e *PackedError) Unwrap() error {
	return e.Err
}

// MemberError tells with which member, counted from 0, something is wrong.
type MemberError struct {
	Number int
	Err    error
}

func (e *MemberError) Error() string {
	return "member " + strconv.Itoa(e.Number) + ": " + e.Err.Error()
}

func (e *MemberError) Unwrap() error {
	return e.Err
}
