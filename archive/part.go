package archive

import (
	"iter"
	"strings"

	"pouch/crc"
	"pouch/flate"
	"pouch/npy"
	"pouch/number"
)

const (
	partSign  = "PK\x03\x04"
	entrySign = "PK\x01\x02"
	suffix    = ".npy"
	version   = 20
	// No member tells when it was written: this is the first day that can be told.
	firstDay = 33
	stored   = 0
	packed   = 8
)

// Where the numbers that are a member's own stand in its part, and how long all ahead of its name is.
const (
	methodAt     = 8
	sumAt        = 14
	sizeAt       = 18
	lengthAt     = 22
	nameLengthAt = 26
	partHead     = 30
)

// part is all that an archive tells of a member.
type part struct {
	name   string
	method uint64
	sum    uint64
	length uint64
	bytes  string
}

func newPart(m Member, earlier []part) (part, error) {
	if err := checkName(m.Name, earlier); err != nil {
		return part{}, err
	}
	file, err := npy.Write(m.Tensor)
	if err != nil {
		return part{}, err
	}
	p := part{name: m.Name, method: stored, sum: uint64(crc.Sum(file)), length: uint64(len(file)), bytes: file}
	if m.Packed {
		p.method = packed
		p.bytes = flate.Deflate(file, flate.MaxLevel)
	}
	return p, nil
}

func (p part) text() string {
	return partSign + p.common() + p.name + suffix + p.bytes
}

// entry tells where the part begins, too.
func (p part) entry(begin int) string {
	return entrySign + number.Bytes(2, version) + p.common() +
		number.Bytes(2, 0, 0, 0, 0, 0) + number.Bytes(4, uint64(begin)) +
		p.name + suffix
}

func (p part) common() string {
	return number.Bytes(2, version, 0, p.method, 0, firstDay) +
		number.Bytes(4, p.sum, uint64(len(p.bytes)), p.length) +
		number.Bytes(2, uint64(len(p.name+suffix)), 0)
}

// partsOf goes through the parts at the beginning of data; behind one that can't be read nothing can be found.
func partsOf(data string) iter.Seq2[part, error] {
	return func(yield func(part, error) bool) {
		rest := data
		for strings.HasPrefix(rest, partSign) {
			p, err := readPart(rest)
			if !yield(p, err) || err != nil {
				return
			}
			rest = rest[len(p.text()):]
		}
	}
}

// readPart leaves out the numbers that are the same in all parts: they are not a member's own.
func readPart(data string) (part, error) {
	if len(data) < partHead {
		return part{}, errShort
	}
	size := number.Of(data[sizeAt:lengthAt])
	nameLength := number.Of(data[nameLengthAt : nameLengthAt+2])
	rest := data[partHead:]
	if nameLength+size > uint64(len(rest)) {
		return part{}, errShort
	}
	name, found := strings.CutSuffix(rest[:nameLength], suffix)
	if !found {
		return part{}, &NameError{Rule: errNoName}
	}
	p := part{
		name:   name,
		method: number.Of(data[methodAt : methodAt+2]),
		sum:    number.Of(data[sumAt:sizeAt]),
		length: number.Of(data[lengthAt:nameLengthAt]),
		bytes:  rest[nameLength : nameLength+size],
	}
	return p, p.checkMethod()
}

func (p part) checkMethod() error {
	switch p.method {
	case stored:
		if p.length != uint64(len(p.bytes)) {
			return errLength
		}
	case packed:
	default:
		return errMethod
	}
	return nil
}
