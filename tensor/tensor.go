// Package tensor knows what a tensor is: kinds, shapes and bytes that go with them.
package tensor

import "pouch/limit"

// Tensor is what is to be held against the rules; the face has a type of its own with the same fields.
type Tensor struct {
	Kind    string
	Shape   []int
	Fortran bool
	Data    string
}

// Items tells how many items a shape has; the product of as many numbers as there may be fits an int many times over.
func Items(shape []int) (int, error) {
	if len(shape) > limit.Rank {
		return 0, errRank
	}
	items := 1
	for _, number := range shape {
		if number < 0 || number > limit.Dim {
			return 0, errDim
		}
		items *= number
	}
	return items, nil
}

// Check answers an *Error, if the tensor is none.
func (t Tensor) Check() error {
	if rule := t.brokenRule(); rule != nil {
		return &Error{Rule: rule}
	}
	return nil
}

func (t Tensor) brokenRule() error {
	if len(t.Data) > limit.Items {
		return errMany
	}
	width, err := Width(t.Kind)
	if err != nil {
		return err
	}
	items, err := Items(t.Shape)
	if err != nil {
		return err
	}
	if items*width != len(t.Data) {
		return errBytes
	}
	return nil
}
