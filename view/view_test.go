package view

import (
	"errors"
	"math"
	"slices"
	"strings"
	"testing"
)

func TestPlaces(t *testing.T) {
	v := View{Width: 1, From: 5, Shape: []int{2, 3}, Strides: []int{10, -1}}
	for fortran, want := range map[bool][]int{false: {5, 4, 3, 15, 14, 13}, true: {5, 15, 4, 14, 3, 13}} {
		v.Fortran = fortran
		got := slices.Collect(v.places(6))
		if !slices.Equal(got, want) {
			t.Errorf("places = %v, want %v", got, want)
		}
	}
}

func TestPlacesMayBeLeftEarly(t *testing.T) {
	v := View{Width: 1, Shape: []int{600}, Strides: []int{1}}
	for leave := range 5 {
		last := -1
		for place := range v.places(600) {
			last = place
			if place == leave {
				break
			}
		}
		if last != leave {
			t.Errorf("left at item %d, not at %d", last, leave)
		}
	}
}

func TestTakeWrapsTheRule(t *testing.T) {
	for _, c := range []struct {
		view View
		rule error
	}{
		{View{Width: 1, Shape: []int{2}}, errStrides},
		{View{Width: 0}, errWidth},
		{View{Width: 17}, errWidth},
		{View{Width: 1, Shape: []int{601}, Strides: []int{0}}, errMany},
		{View{Width: 1, From: -1}, errFrom},
		{View{Width: 1, From: 4}, errFrom},
		{View{Width: 1, Shape: []int{2}, Strides: []int{math.MinInt}}, errFar},
		{View{Width: 1, Shape: []int{2}, Strides: []int{601}}, errFar},
		{View{Width: 1, Shape: []int{2}, Strides: []int{-601}}, errFar},
		{View{Width: 1, Shape: []int{2}, Strides: []int{600}}, errOutside},
		{View{Width: 1, Shape: []int{2}, Strides: []int{-600}}, errOutside},
		{View{Width: 4}, errOutside},
	} {
		_, err := c.view.Take("abc")
		var none *Error
		if !errors.As(err, &none) || !errors.Is(err, c.rule) || !strings.Contains(err.Error(), c.rule.Error()) {
			t.Errorf("Take of %v: %v, want %v", c.view, err, c.rule)
		}
	}
	var none *Error
	if _, err := (View{Width: 1, Shape: []int{-1}, Strides: []int{1}}).Take("abc"); !errors.As(err, &none) {
		t.Errorf("Take of a wrong shape: %v", err)
	}
}
