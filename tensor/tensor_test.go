package tensor

import (
	"errors"
	"math"
	"strings"
	"testing"
)

func TestWidth(t *testing.T) {
	for kind, want := range map[string]int{"|b1": 1, "|i1": 1, "|u1": 1, "<i2": 2, ">u4": 4, "<f2": 2, ">f8": 8, "<c8": 8, ">c16": 16} {
		if width, err := Width(kind); width != want || err != nil {
			t.Errorf("Width(%q) = %d, %v, want %d", kind, width, err, want)
		}
	}
	for _, kind := range []string{"", "|b", "|b2", "<b1", "<i1", "|i2", "<i16", "|f1", "<f16", "<c4", "<c2", "|c1", "<i3", "<x4", "=i4", "<i04", "<c016"} {
		if width, err := Width(kind); width != 0 || !errors.Is(err, errKind) {
			t.Errorf("Width(%q) = %d, %v, want errKind", kind, width, err)
		}
	}
}

func TestItems(t *testing.T) {
	for _, c := range []struct {
		shape []int
		items int
		err   error
	}{
		{nil, 1, nil},
		{[]int{7}, 7, nil},
		{[]int{2, 0}, 0, nil},
		{[]int{2, 3, 4, 5}, 120, nil},
		{[]int{9999, 9999, 9999, 9999}, 9996000599960001, nil},
		{[]int{1, 1, 1, 1, 1}, 0, errRank},
		{[]int{10000}, 0, errDim},
		{[]int{0, -1}, 0, errDim},
		{[]int{math.MaxInt, math.MinInt}, 0, errDim},
	} {
		if items, err := Items(c.shape); items != c.items || !errors.Is(err, c.err) {
			t.Errorf("Items(%v) = %d, %v, want %d, %v", c.shape, items, err, c.items, c.err)
		}
	}
}

func TestCheckWrapsTheRule(t *testing.T) {
	for _, c := range []struct {
		tensor Tensor
		rule   error
	}{
		{Tensor{Kind: "<i3"}, errKind},
		{Tensor{Kind: "|u1", Shape: []int{0, 0, 0, 0, 0}}, errRank},
		{Tensor{Kind: "|u1", Shape: []int{-1}}, errDim},
		{Tensor{Kind: "|u1", Shape: []int{2}, Data: "a"}, errBytes},
		{Tensor{Kind: "<u2", Shape: []int{2}, Data: "ab"}, errBytes},
		{Tensor{Kind: "|u1", Shape: []int{301}, Data: strings.Repeat("a", 301)}, errMany},
	} {
		err := c.tensor.Check()
		var none *Error
		if !errors.As(err, &none) || !errors.Is(err, c.rule) || !strings.Contains(err.Error(), c.rule.Error()) {
			t.Errorf("Check of %v = %v, want %v", c.tensor, err, c.rule)
		}
	}
	if err := (Tensor{Kind: "<u2", Shape: []int{1, 2}, Data: "abcd"}).Check(); err != nil {
		t.Errorf("Check of a tensor = %v", err)
	}
}
