package pouch_test

import (
	"testing"

	"pouch/pouch"
)

func TestErrnoNumbers(t *testing.T) {
	for want, got := range []pouch.Errno{
		pouch.OK, pouch.ErrLong, pouch.ErrArg, pouch.ErrEnd, pouch.ErrData, pouch.ErrMost,
		pouch.ErrView, pouch.ErrTensor, pouch.ErrName, pouch.ErrZip, pouch.ErrCrc, pouch.ErrNpy,
	} {
		if int(got) != want {
			t.Errorf("the error number %d is %d", want, got)
		}
	}
}
