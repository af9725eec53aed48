package pouch

import (
	"errors"

	"pouch/archive"
	"pouch/flate"
	"pouch/npy"
	"pouch/tensor"
	"pouch/view"
)

// errnoOf is the one place where an error from inside becomes a number. An error that wraps others is asked for ahead of them.
func errnoOf(err error) Errno {
	var (
		noArchive *archive.LayoutError
		noName    *archive.NameError
		noPacked  *archive.PackedError
		broken    *flate.DataError
		noView    *view.Error
		noFile    *npy.FileError
		noTensor  *tensor.Error
	)
	switch {
	case err == nil:
		return OK
	case errors.As(err, &noArchive):
		return ErrZip
	case errors.As(err, &noName):
		return ErrName
	case errors.As(err, &noPacked), errors.As(err, &broken):
		return ErrData
	case errors.Is(err, flate.ErrEnd):
		return ErrEnd
	case errors.Is(err, flate.ErrMost), errors.Is(err, archive.ErrMost):
		return ErrMost
	case errors.Is(err, archive.ErrSum):
		return ErrCrc
	case errors.As(err, &noView):
		return ErrView
	case errors.As(err, &noFile):
		return ErrNpy
	case errors.As(err, &noTensor):
		return ErrTensor
	}
	// Nothing inside tells another error; if it did, that must not pass for OK.
	return ErrArg
}

// placeOf is the number of the member that an error is about, or 0, if it is about none.
func placeOf(err error) int {
	var member *archive.MemberError
	if errors.As(err, &member) {
		return member.Number
	}
	return 0
}
