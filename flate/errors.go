package flate

import (
	"errors"
	"strconv"
)

// ErrEnd tells that a bit is needed and there is none, ErrMost that more bytes are to be told than are wanted.
var (
	ErrEnd  = errors.New("the bits are at their end")
	ErrMost = errors.New("more bytes than are wanted")
)

// The rules that a stream may break: each stands in a DataError.
var (
	errKind       = errors.New("a block of kind 3")
	errComplement = errors.New("a stored length without its complement")
	errManyCodes  = errors.New("more codes than there may be")
	errShortCode  = errors.New("a short code that does not use up all bits")
	errNothing    = errors.New("a repetition of nothing")
	errBeyond     = errors.New("a repetition beyond the last code")
	errNoEnd      = errors.New("no code for the end of the block")
	errSymbols    = errors.New("a code of bytes and lengths that does not use up all bits")
	errDistances  = errors.New("a code of distances that does not use up all bits")
	errNoCode     = errors.New("fifteen bits that are no code")
	errSymbol     = errors.New("a symbol that stands for no length")
	errDistance   = errors.New("a symbol that stands for no distance")
	errFar        = errors.New("a distance beyond the first byte")
)

// DataError tells that the bits stand for nothing: all broken rules are one kind of error to a caller.
type DataError struct {
	Rule error
}

func (e *DataError) Error() string {
	return "no DEFLATE stream: " + e.Rule.Error()
}

func (e *DataError) Unwrap() error {
	return e.Rule
}

// BlockError tells in which block, counted from 0, a stream was given up.
type BlockError struct {
	Number int
	Err    error
}

func (e *BlockError) Error() string {
	return "block " + strconv.Itoa(e.Number) + ": " + e.Err.Error()
}

func (e *BlockError) Unwrap() error {
	return e.Err
}

func broken(rule error) error {
	return &DataError{Rule: rule}
}
