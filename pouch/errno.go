package pouch

import (
	"errors"

	"pouch/flate"
)

// errnoOf is the one place where an error from inside becomes a number.
func errnoOf(err error) Errno {
	var broken *flate.DataError
	switch {
	case err == nil:
		return OK
	case errors.Is(err, flate.ErrEnd):
		return ErrEnd
	case errors.Is(err, flate.ErrMost):
		return ErrMost
	case errors.As(err, &broken):
		return ErrData
	}
	// Nothing inside tells another error; if it did, that must not pass for OK.
	return ErrArg
}
