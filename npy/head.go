package npy

import (
	"slices"
	"strconv"
	"strings"

	"pouch/tensor"
)

const (
	fieldCount = 3
	mostDigits = 4
)

// head is a file's head that is read sign by sign; blanks are passed over ahead of each sign alone, so that none passes elsewhere.
type head struct {
	text  string
	at    int
	names []string
	found tensor.Tensor
}

// readHead answers a tensor that lacks its items' bytes, and is not yet held against a tensor's rules.
func readHead(text string) (tensor.Tensor, error) {
	h := &head{text: text}
	if err := h.whole(); err != nil {
		return tensor.Tensor{}, err
	}
	return h.found, nil
}

func (h *head) whole() error {
	if err := h.must("{"); err != nil {
		return err
	}
	if err := h.fields(); err != nil {
		return err
	}
	if err := h.must("}"); err != nil {
		return err
	}
	if err := h.must("\n"); err != nil {
		return err
	}
	if h.at < len(h.text) {
		return errBehind
	}
	return nil
}

func (h *head) fields() error {
	for i := range fieldCount {
		if i > 0 {
			if err := h.must(","); err != nil {
				return err
			}
		}
		if err := h.field(); err != nil {
			return err
		}
	}
	h.has(",")
	return nil
}

func (h *head) field() error {
	name, err := h.quoted()
	if err != nil {
		return err
	}
	if slices.Contains(h.names, name) {
		return errTwice
	}
	h.names = append(h.names, name)
	if err := h.must(":"); err != nil {
		return err
	}
	return h.value(name)
}

func (h *head) value(name string) (err error) {
	switch name {
	case "descr":
		var kind string
		kind, err = h.quoted()
		h.found.Kind = strings.Clone(kind)
	case "fortran_order":
		h.found.Fortran, err = h.truth()
	case "shape":
		h.found.Shape, err = h.shape()
	default:
		err = errName
	}
	return err
}

func (h *head) shape() ([]int, error) {
	if err := h.must("("); err != nil {
		return nil, err
	}
	var shape []int
	comma := false
	for !h.has(")") {
		if len(shape) > 0 && !comma {
			return nil, errSign
		}
		number, err := h.number()
		if err != nil {
			return nil, err
		}
		shape = append(shape, number)
		comma = h.has(",")
	}
	if len(shape) == 1 && !comma {
		return nil, errComma
	}
	return shape, nil
}

func (h *head) number() (int, error) {
	h.skipBlanks()
	rest := h.text[h.at:]
	digits := rest[:len(rest)-len(strings.TrimLeft(rest, "0123456789"))]
	if len(digits) > mostDigits || len(digits) > 1 && digits[0] == '0' {
		return 0, errNumber
	}
	number, err := strconv.Atoi(digits)
	if err != nil {
		return 0, errNumber
	}
	h.at += len(digits)
	return number, nil
}

func (h *head) truth() (bool, error) {
	if h.has("True") {
		return true, nil
	}
	if h.has("False") {
		return false, nil
	}
	return false, errTruth
}

func (h *head) quoted() (string, error) {
	for _, quote := range []string{"'", `"`} {
		if h.has(quote) {
			return h.upTo(quote)
		}
	}
	return "", errQuotes
}

func (h *head) upTo(quote string) (string, error) {
	text, _, found := strings.Cut(h.text[h.at:], quote)
	if !found {
		return "", errQuotes
	}
	h.at += len(text) + len(quote)
	return text, nil
}

func (h *head) must(sign string) error {
	if !h.has(sign) {
		return errSign
	}
	return nil
}

// has goes on behind the sign, if it comes next.
func (h *head) has(sign string) bool {
	h.skipBlanks()
	if !strings.HasPrefix(h.text[h.at:], sign) {
		return false
	}
	h.at += len(sign)
	return true
}

func (h *head) skipBlanks() {
	for h.at < len(h.text) && h.text[h.at] == ' ' {
		h.at++
	}
}
