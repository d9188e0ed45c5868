package sums_test

import (
	"math/big"
	"math/rand"
	"slices"
	"testing"

	"jobber/api"
	"jobber/sums"
)

// P7.2.

// list is a call of Sum, and what is wanted of it.
type list struct {
	l    []int
	want int
	err  api.Errno
}

func holdSum(t *testing.T, c list) {
	t.Helper()
	if got, err := sums.Sum(c.l...); got != c.want || err != c.err {
		t.Errorf("Sum of %d = %d, %d; want %d, %d", c.l, got, err, c.want, c.err)
	}
}

func holdSums(t *testing.T, lists []list) {
	t.Helper()
	for _, c := range lists {
		holdSum(t, c)
	}
}

// repeated is n times the same number.
func repeated(number, n int) []int { return slices.Repeat([]int{number}, n) }

func TestSumOfNoNumbers(t *testing.T) {
	holdSums(t, []list{
		{nil, 0, api.OK},
		{[]int{}, 0, api.OK},
		{[]int{7, -1, greatest}[:0], 0, api.OK},
	})
	if got, err := sums.Sum(); got != 0 || err != api.OK {
		t.Errorf("Sum() = %d, %d", got, err)
	}
}

func TestSumOfOneNumber(t *testing.T) {
	holdSums(t, []list{
		{[]int{0}, 0, api.OK},
		{[]int{1}, 1, api.OK},
		{[]int{5}, 5, api.OK},
		{[]int{greatest}, greatest, api.OK},
		{[]int{-1}, 0, api.ErrArg},
		{[]int{-greatest}, 0, api.ErrArg},
		{[]int{least}, 0, api.ErrArg},
	})
}

func TestSumOfManyNumbers(t *testing.T) {
	holdSums(t, []list{
		{[]int{1, 2}, 3, api.OK},
		{[]int{1, 2, 3}, 6, api.OK},
		{[]int{5, 5, 5, 5}, 20, api.OK},
		{[]int{0, 0, 0}, 0, api.OK},
		{[]int{0, 7, 0}, 7, api.OK},
		{[]int{1, 20, 300, 4000, 50000}, 54321, api.OK},
		{repeated(3, 100_000), 300_000, api.OK},
		{repeated(1<<40, 1000), 1000 << 40, api.OK},
	})
}

func TestSumAtTheGreatest(t *testing.T) {
	holdSums(t, []list{
		{[]int{greatest, 0}, greatest, api.OK},
		{[]int{0, greatest}, greatest, api.OK},
		{[]int{greatest - 1, 1}, greatest, api.OK},
		{[]int{greatest - 1, 0, 1, 0}, greatest, api.OK},
		{[]int{1, 2, greatest - 3}, greatest, api.OK},
		{append(repeated(1<<60, 7), 1<<60-1), greatest, api.OK},
		{[]int{greatest, 1}, 0, api.ErrOver},
		{[]int{1, greatest}, 0, api.ErrOver},
		{[]int{greatest - 1, 0, 1, 0, 1}, 0, api.ErrOver},
		{[]int{1, 2, greatest - 2}, 0, api.ErrOver},
		{repeated(1<<60, 8), 0, api.ErrOver},
		{[]int{greatest, greatest}, 0, api.ErrOver},
	})
}

// What comes behind would make the sum, wrapped round, one of an int again.
func TestSumStopsWhereItIsTooGreat(t *testing.T) {
	holdSums(t, []list{
		{[]int{greatest, greatest, 2}, 0, api.ErrOver},
		{[]int{greatest, 1, 1}, 0, api.ErrOver},
		{repeated(1<<62, 4), 0, api.ErrOver},
		{repeated(1<<62, 5), 0, api.ErrOver},
		{[]int{greatest, 1, 0}, 0, api.ErrOver},
		{append([]int{greatest, 1}, repeated(0, 50)...), 0, api.ErrOver},
	})
}

func TestSumRefusesNegativeNumbersAnywhere(t *testing.T) {
	for _, n := range []int{-1, -2, -greatest, least} {
		for at := range 6 {
			l := []int{3, 0, 1 << 40, 3, 7, 1}
			l[at] = n
			holdSum(t, list{l, 0, api.ErrArg})
		}
	}
	holdSums(t, []list{
		{[]int{-1, -1}, 0, api.ErrArg},
		{[]int{-1, 1}, 0, api.ErrArg},
		{[]int{1, -1}, 0, api.ErrArg},
		{[]int{least, least}, 0, api.ErrArg},
	})
}

func TestTheFirstErrorOfSumCounts(t *testing.T) {
	holdSums(t, []list{
		{[]int{greatest, 1, -1}, 0, api.ErrOver},
		{[]int{greatest, -1, 1}, 0, api.ErrArg},
		{[]int{-1, greatest, 1}, 0, api.ErrArg},
		{[]int{5, greatest, -1}, 0, api.ErrOver},
		{[]int{5, greatest, least}, 0, api.ErrOver},
		{[]int{5, least, greatest, greatest}, 0, api.ErrArg},
		{[]int{1 << 62, 1 << 62, 0, 0, -1}, 0, api.ErrOver},
		{[]int{1 << 62, 0, -1, 0, 1 << 62}, 0, api.ErrArg},
	})
}

// exactSum is P7.2 worked out without an end to the numbers.
func exactSum(l []int) (int, api.Errno) {
	sum := new(big.Int)
	for _, n := range l {
		if n < 0 {
			return 0, api.ErrArg
		}
		if sum.Add(sum, bigOf(n)).Cmp(bigOf(greatest)) > 0 {
			return 0, api.ErrOver
		}
	}
	return int(sum.Int64()), api.OK
}

func TestSumOfManyLists(t *testing.T) {
	r := rand.New(rand.NewSource(7))
	edges := someNumbers()
	for range 50_000 {
		var l []int
		for range r.Intn(9) {
			n := drawn(r)
			if r.Intn(3) == 0 {
				n = edges[r.Intn(len(edges))]
			}
			// Fewer negative numbers, so that many a list gets to its end.
			if n < 0 && r.Intn(4) > 0 {
				n = -(n + 1)
			}
			l = append(l, n)
		}
		want, err := exactSum(l)
		holdSum(t, list{l, want, err})
	}
}

// R2, R5: neither the numbers nor the capacity behind them are written, and
// what stands behind them is not read.
func TestSumLeavesItsNumbersAlone(t *testing.T) {
	for _, c := range []list{
		{[]int{1, 2, 3}, 6, api.OK},
		{[]int{3, 2, 1}, 6, api.OK},
		{[]int{greatest, 1, 5}, 0, api.ErrOver},
		{[]int{4, -1, 5}, 0, api.ErrArg},
		{[]int{}, 0, api.OK},
	} {
		for _, behind := range []int{8, -8, greatest} {
			whole := append(slices.Clone(c.l), behind, behind)
			before := slices.Clone(whole)
			c.l = whole[:len(c.l)]
			holdSum(t, c)
			if !slices.Equal(whole, before) {
				t.Errorf("Sum made %d of %d", whole, before)
			}
		}
	}
}

// R3, R4: an answer hangs on its own numbers alone, whatever was asked or
// refused before, and whatever became of a list that was handed in.
func TestNothingIsKeptFromCallToCall(t *testing.T) {
	l := []int{1, 2, 3}
	holdSum(t, list{l, 6, api.OK})
	l[0] = 10
	holdSum(t, list{l, 15, api.OK})
	for range 3 {
		holdSum(t, list{[]int{greatest, 1}, 0, api.ErrOver})
		holdSum(t, list{[]int{5, -1}, 0, api.ErrArg})
		holdSum(t, list{[]int{4, 5}, 9, api.OK})
		holdSum(t, list{nil, 0, api.OK})
		hold(t, "Plus", sums.Plus, row{greatest, 1, 0, api.ErrOver})
		hold(t, "Plus", sums.Plus, row{4, 5, 9, api.OK})
		hold(t, "Times", sums.Times, row{greatest, 2, 0, api.ErrOver})
		hold(t, "Times", sums.Times, row{4, 5, 20, api.OK})
		hold(t, "Ceil", sums.Ceil, row{4, 0, 0, api.ErrArg})
		hold(t, "Ceil", sums.Ceil, row{5, 4, 2, api.OK})
	}
}
