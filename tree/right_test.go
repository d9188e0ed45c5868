package tree_test

import (
	"math"
	"testing"

	"jobber/api"
	"jobber/tree"
)

// P13.1.

// field is one number of a trader, and its greatest; its least is 0.
type field struct {
	name string
	of   func(x *api.Trader) *int
	most int
}

func fields() []field {
	return []field{
		{"Firm", func(x *api.Trader) *int { return &x.Firm }, 7},
		{"Desk", func(x *api.Trader) *int { return &x.Desk }, 15},
		{"Roles", func(x *api.Trader) *int { return &x.Roles }, 15},
		{"Insts", func(x *api.Trader) *int { return &x.Insts }, 255},
	}
}

// with is x with this number in the field.
func (f field) with(x api.Trader, n int) api.Trader {
	*f.of(&x) = n
	return x
}

// corners holds the traders with each field at one of its ends, with each Off
// and with several Keys.
func corners() []api.Trader {
	all := []api.Trader{{}}
	for _, f := range fields() {
		for _, x := range all {
			all = append(all, f.with(x, f.most))
		}
	}
	for _, x := range all {
		x.Off = true
		all = append(all, x)
	}
	for _, x := range all {
		x.Key = api.Sum{255, 31: 1}
		all = append(all, x)
		for i := range x.Key {
			x.Key[i] = 255
		}
		all = append(all, x)
	}
	return all
}

// outside holds numbers that a field with this greatest one can't have.
func outside(most int) []int {
	return []int{-1, most + 1, -2, most + 2, ^most, -most, 2*most + 1, 2*most + 2, 256, 257, 1 << 16, 1 << 20, 1 << 31, 1<<31 - 1,
		1 << 32, 1<<32 + 1, 1<<32 + most, 1 << 62, -256, -1 << 31, -1<<31 - 1, -1 << 32, 1 - 1<<32,
		math.MinInt, math.MinInt + 1, math.MinInt + most, math.MaxInt - 1, math.MaxInt}
}

func holdRight(t *testing.T, x api.Trader, want bool) {
	t.Helper()
	if got := tree.Right(x); got != want {
		t.Errorf("Right(%+v) = %t", x, got)
	}
}

func TestRightAtAllEnds(t *testing.T) {
	if n := len(corners()); n != 16*2*3 {
		t.Fatal(n)
	}
	for _, x := range corners() {
		holdRight(t, x, true)
	}
}

func TestRightOfOrdinaryTraders(t *testing.T) {
	for _, l := range lists() {
		for _, x := range l {
			holdRight(t, x, true)
		}
	}
}

func TestRightOfEachNumberWithinTheEnds(t *testing.T) {
	for _, f := range fields() {
		for n := range f.most + 1 {
			for _, x := range append(corners(), house()[1]) {
				holdRight(t, f.with(x, n), true)
			}
		}
	}
}

func TestRightOfOneFieldOutside(t *testing.T) {
	for _, f := range fields() {
		for _, n := range outside(f.most) {
			for _, x := range append(corners(), house()[1]) {
				holdRight(t, f.with(x, n), false)
			}
		}
	}
}

// What is wrong with one field is not made good by what is wrong with another.
func TestRightOfTwoFieldsOutside(t *testing.T) {
	for i, f := range fields() {
		for _, g := range fields()[:i] {
			for _, a := range outside(f.most) {
				for _, b := range outside(g.most) {
					holdRight(t, g.with(f.with(house()[1], a), b), false)
				}
			}
		}
	}
}
