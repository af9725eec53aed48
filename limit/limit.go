// Package limit has the bounds of the program (DOC.md, Words).
package limit

const (
	Text    = 600  // bytes that are packed or viewed
	Archive = 3000 // bytes that are read
	Out     = 3000 // bytes that are unpacked
	Rank    = 4    // numbers of a shape
	Dim     = 9999 // each of them
	Items   = 300  // bytes of a tensor
	Members = 4    // of an archive
	Name    = 12   // bytes of a member's name
)
