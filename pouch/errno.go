package pouch

import (
	"errors"

	"pouch/flate"
	"pouch/npy"
	"pouch/tensor"
	"pouch/view"
)

// errnoOf is the one place where an error from inside becomes a number. An error that wraps others is asked for ahead of them.
func errnoOf(err error) Errno {
	var (
		broken   *flate.DataError
		noView   *view.Error
		noFile   *npy.FileError
		noTensor *tensor.Error
	)
	switch {
	case err == nil:
		return OK
	case errors.Is(err, flate.ErrEnd):
		return ErrEnd
	case errors.Is(err, flate.ErrMost):
		return ErrMost
	case errors.As(err, &broken):
		return ErrData
	case errors.As(err, &noView):
		return ErrView
	case errors.As(err, &noFile):
		return ErrNpy
	case errors.As(err, &noTensor):
		return ErrTensor
	}
	// Nothing inside tells another error; if it did, that must not pass for OK.
	return ErrArg
}
