package npy

import "errors"

// The rules that a file may break, beside those of a tensor.
var (
	errMagic   = errors.New("another beginning")
	errVersion = errors.New("an unknown version")
	errShort   = errors.New("an end inside the head")
	errSign    = errors.New("a sign other than the one that must stand here")
	errQuotes  = errors.New("no text in quotes")
	errName    = errors.New("an unknown field")
	errTwice   = errors.New("a field that was there")
	errTruth   = errors.New("neither True nor False")
	errNumber  = errors.New("no number")
	errComma   = errors.New("one number without a comma")
	errBehind  = errors.New("something behind the head's newline")
)

// FileError tells that something is no tensor's file: all broken rules are one kind of error to a caller.
type FileError struct {
	Err error
}

func (e *FileError) Error() string {
	return "no tensor's file: " + e.Err.Error()
}

func (e *FileError) Unwrap() error {
	return e.Err
}
