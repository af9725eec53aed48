// Package archive writes and reads tensors' files in ZIP archives.
package archive

import (
	"iter"
	"strings"

	"pouch/limit"
	"pouch/number"
	"pouch/tensor"
)

const endSign = "PK\x05\x06"

// Member is a tensor of an archive; the face has a type of its own for it.
type Member struct {
	Name   string
	Packed bool
	Tensor tensor.Tensor
}

// Save writes the archive of the members, or answers a *MemberError; behind the first member that can't be saved none is asked for.
func Save(members iter.Seq[Member]) (string, error) {
	var parts []part
	for m := range members {
		p, err := newPart(m, parts)
		if err != nil {
			return "", &MemberError{Number: len(parts), Err: err}
		}
		parts = append(parts, p)
	}
	return write(parts), nil
}

// Members goes through the members of an archive. Where a file can't be read, or has more than most bytes, there is a *MemberError in its member's place; where data is no archive, there is a *LayoutError alone.
func Members(data string, most int) iter.Seq2[Member, error] {
	return func(yield func(Member, error) bool) {
		parts, err := read(data)
		if err != nil {
			yield(Member{}, &LayoutError{Err: err})
			return
		}
		for i, p := range parts {
			m, err := p.member(most)
			if err != nil {
				err = &MemberError{Number: i, Err: err}
			}
			if !yield(m, err) {
				return
			}
		}
	}
}

func write(parts []part) string {
	var out, entries strings.Builder
	for _, p := range parts {
		entries.WriteString(p.entry(out.Len()))
		out.WriteString(p.text())
	}
	begin, count := uint64(out.Len()), uint64(len(parts))
	out.WriteString(entries.String())
	out.WriteString(endSign)
	out.WriteString(number.Bytes(2, 0, 0, count, count))
	out.WriteString(number.Bytes(4, uint64(entries.Len()), begin))
	out.WriteString(number.Bytes(2, 0))
	return out.String()
}

// read answers the parts of an archive. They leave no choice in what all its other bytes are, so data is held against what would be written of them.
func read(data string) ([]part, error) {
	var parts []part
	for p, err := range partsOf(data) {
		if err != nil {
			return nil, err
		}
		if len(parts) == limit.Members {
			return nil, errMany
		}
		if err := checkName(p.name, parts); err != nil {
			return nil, err
		}
		parts = append(parts, p)
	}
	if write(parts) != data {
		return nil, errOther
	}
	return parts, nil
}
