package allow_test

import (
	"testing"

	"jobber/api"
	"jobber/tree"
)

// Two traders of the same desk, of the same firm, and of two firms: what
// DoCancel and DoSuspend ask for.

// kin is what another trader is to one of firm 1, desk 4.
type kin struct {
	name               string
	firm, desk         int
	sameFirm, sameDesk bool
}

func kins() []kin {
	return []kin{
		{name: "of its desk", firm: 1, desk: 4, sameFirm: true, sameDesk: true},
		{name: "of another desk", firm: 1, desk: 5, sameFirm: true},
		{name: "of the first desk", firm: 1, desk: 0, sameFirm: true},
		{name: "of the last desk", firm: 1, desk: 15, sameFirm: true},
		{name: "of another firm, its desk of the same number", firm: 2, desk: 4},
		{name: "of another firm and desk", firm: 2, desk: 1},
		{name: "of the first firm", firm: 0, desk: 4},
		{name: "of the last firm", firm: 7, desk: 4},
		{name: "of the firm that has the desk's number", firm: 4, desk: 1},
	}
}

// places holds where the two traders stand.
func places() [][2]int {
	return [][2]int{{0, 31}, {31, 0}, {0, 1}, {1, 0}, {4, 5}, {30, 31}, {31, 30}, {15, 16}}
}

// eachPair calls f for each set of roles of both and each place, with the tree
// of both and nobody beside.
func eachPair(t *testing.T, k kin, f func(x *tree.Tree, n, other int, l list)) {
	t.Helper()
	for mine := 1; mine <= 15; mine++ {
		for theirs := 1; theirs <= 15; theirs++ {
			for _, at := range places() {
				l := only(at[0], api.Trader{Firm: 1, Desk: 4, Roles: mine, Insts: 255})
				l[at[1]] = api.Trader{Firm: k.firm, Desk: k.desk, Roles: theirs, Insts: 255}
				f(made(t, l), at[0], at[1], l)
			}
		}
	}
}

// eachOff calls f with the other one suspended and not, which is nothing to
// what may be done to it.
func eachOff(x *tree.Tree, other int, f func()) {
	for _, off := range []bool{false, true} {
		x.Off(other, off)
		f()
	}
	x.Off(other, false)
}
