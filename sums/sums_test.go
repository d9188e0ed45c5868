package sums_test

import (
	"math/big"
	"math/rand"
	"slices"
	"testing"

	"jobber/api"
	"jobber/sums"
)

const (
	greatest = 1<<63 - 1
	least    = -1 << 63
)

// row is a call with two numbers, and what is wanted of it.
type row struct {
	a, b int
	want int
	err  api.Errno
}

type operation func(a, b int) (int, api.Errno)

func hold(t *testing.T, name string, f operation, r row) {
	t.Helper()
	if got, err := f(r.a, r.b); got != r.want || err != r.err {
		t.Errorf("%s(%d, %d) = %d, %d; want %d, %d", name, r.a, r.b, got, err, r.want, r.err)
	}
}

// holdBothWays is for what does not hang on the order of its numbers.
func holdBothWays(t *testing.T, name string, f operation, rows []row) {
	t.Helper()
	for _, r := range rows {
		hold(t, name, f, r)
		r.a, r.b = r.b, r.a
		hold(t, name, f, r)
	}
}

// someNumbers holds small numbers, and those beside the powers of 2, beside
// the root of the greatest int and beside parts of it, and their negatives.
func someNumbers() []int {
	var l []int
	for n := range 20 {
		l = append(l, n, -n, greatest-n, least+n)
	}
	for bit := range 63 {
		for d := -2; d <= 2; d++ {
			l = append(l, 1<<bit+d, -1<<bit+d)
		}
	}
	const root = 3037000499
	for d := -2; d <= 2; d++ {
		l = append(l, root+d, -root+d)
	}
	for n := 2; n < 20; n++ {
		l = append(l, greatest/n-1, greatest/n, greatest/n+1, -greatest/n)
	}
	slices.Sort(l)
	return slices.Compact(l)
}

// drawn is a number of any length, so that small ones are drawn too.
func drawn(r *rand.Rand) int {
	n := int(r.Uint64() >> r.Intn(64))
	if r.Intn(8) == 0 {
		return -n
	}
	return n
}

// eachPair hands over every pair of someNumbers, and many that are drawn.
func eachPair(f func(a, b int)) {
	l := someNumbers()
	for _, a := range l {
		for _, b := range l {
			f(a, b)
		}
	}
	r := rand.New(rand.NewSource(7))
	for range 200_000 {
		f(drawn(r), drawn(r))
	}
}

func bigOf(n int) *big.Int { return big.NewInt(int64(n)) }

// exact is P7.1 worked out without an end to the numbers.
func exact(a, b int, result *big.Int) row {
	switch {
	case a < 0 || b < 0:
		return row{a, b, 0, api.ErrArg}
	case result.Cmp(bigOf(greatest)) > 0:
		return row{a, b, 0, api.ErrOver}
	default:
		return row{a, b, int(result.Int64()), api.OK}
	}
}

// P7.1.

func TestPlusOfOrdinaryNumbers(t *testing.T) {
	holdBothWays(t, "Plus", sums.Plus, []row{
		{2, 3, 5, api.OK},
		{40, 2, 42, api.OK},
		{7, 7, 14, api.OK},
		{1 << 20, 1 << 30, 1<<20 + 1<<30, api.OK},
		{1 << 32, 1 << 31, 1<<32 + 1<<31, api.OK},
		{1, 1, 2, api.OK},
		{1, 9, 10, api.OK},
	})
}

func TestPlusNought(t *testing.T) {
	holdBothWays(t, "Plus", sums.Plus, []row{
		{0, 0, 0, api.OK},
		{0, 1, 1, api.OK},
		{0, 12345, 12345, api.OK},
		{0, greatest - 1, greatest - 1, api.OK},
		{0, greatest, greatest, api.OK},
	})
}

func TestPlusAtTheGreatestSum(t *testing.T) {
	holdBothWays(t, "Plus", sums.Plus, []row{
		{1, greatest - 1, greatest, api.OK},
		{2, greatest - 2, greatest, api.OK},
		{1 << 62, 1<<62 - 1, greatest, api.OK},
		{1 << 40, greatest - 1<<40, greatest, api.OK},
		{1, greatest, 0, api.ErrOver},
		{2, greatest - 1, 0, api.ErrOver},
		{3, greatest - 2, 0, api.ErrOver},
		{1 << 62, 1 << 62, 0, api.ErrOver},
		{1 << 40, greatest - 1<<40 + 1, 0, api.ErrOver},
		{greatest, greatest - 1, 0, api.ErrOver},
		{greatest, greatest, 0, api.ErrOver},
	})
}

// The sum of some of these would be right, and that of others too great or
// too small; it is not asked for.
func TestPlusRefusesNegativeNumbers(t *testing.T) {
	holdBothWays(t, "Plus", sums.Plus, negatives())
}

func negatives() []row {
	return []row{
		{-1, 0, 0, api.ErrArg},
		{-1, 1, 0, api.ErrArg},
		{-1, 5, 0, api.ErrArg},
		{-5, 1, 0, api.ErrArg},
		{-1, -1, 0, api.ErrArg},
		{-2, -3, 0, api.ErrArg},
		{-1, greatest, 0, api.ErrArg},
		{-2, greatest, 0, api.ErrArg},
		{-greatest, greatest, 0, api.ErrArg},
		{-greatest, 2, 0, api.ErrArg},
		{-greatest, -greatest, 0, api.ErrArg},
		{least, 0, 0, api.ErrArg},
		{least, 1, 0, api.ErrArg},
		{least, 2, 0, api.ErrArg},
		{least, -1, 0, api.ErrArg},
		{least, -2, 0, api.ErrArg},
		{least, greatest, 0, api.ErrArg},
		{least, -greatest, 0, api.ErrArg},
		{least, least, 0, api.ErrArg},
	}
}

func TestPlusOfManyPairs(t *testing.T) {
	eachPair(func(a, b int) {
		hold(t, "Plus", sums.Plus, exact(a, b, new(big.Int).Add(bigOf(a), bigOf(b))))
	})
}

func TestTimesOfOrdinaryNumbers(t *testing.T) {
	holdBothWays(t, "Times", sums.Times, []row{
		{2, 3, 6, api.OK},
		{40, 2, 80, api.OK},
		{7, 7, 49, api.OK},
		{1 << 20, 1 << 20, 1 << 40, api.OK},
		{1 << 20, 1 << 30, 1 << 50, api.OK},
		{999_999_937, 1_000_003, 1_000_002_936_999_811, api.OK},
	})
}

func TestTimesNought(t *testing.T) {
	holdBothWays(t, "Times", sums.Times, []row{
		{0, 0, 0, api.OK},
		{0, 1, 0, api.OK},
		{0, 12345, 0, api.OK},
		{0, greatest - 1, 0, api.OK},
		{0, greatest, 0, api.OK},
	})
}

func TestTimesOne(t *testing.T) {
	holdBothWays(t, "Times", sums.Times, []row{
		{1, 1, 1, api.OK},
		{1, 12345, 12345, api.OK},
		{1, greatest - 1, greatest - 1, api.OK},
		{1, greatest, greatest, api.OK},
	})
}

// 2^63 - 1 is 7^2 · 73 · 127 · 337 · 92737 · 649657, and 2^63 is a power of 2.
func TestTimesAtTheGreatestProduct(t *testing.T) {
	holdBothWays(t, "Times", sums.Times, []row{
		{7, 1317624576693539401, greatest, api.OK},
		{49, 188232082384791343, greatest, api.OK},
		{73, greatest / 73, greatest, api.OK},
		{127 * 337, greatest / (127 * 337), greatest, api.OK},
		{649657, 14197294936951, greatest, api.OK},
		{2, 1<<62 - 1, greatest - 1, api.OK},
		{3, greatest / 3, greatest - 1, api.OK},
		{1 << 32, 1<<31 - 1, 1<<63 - 1<<32, api.OK},
		{3037000499, 3037000499, 9223372030926249001, api.OK},
		{3037000499, 3037000500, 9223372033963249500, api.OK},
		{2, 1 << 62, 0, api.ErrOver},
		{4, 1 << 61, 0, api.ErrOver},
		{1 << 32, 1 << 31, 0, api.ErrOver},
		{3, greatest/3 + 1, 0, api.ErrOver},
		{7, greatest/7 + 1, 0, api.ErrOver},
		{3037000500, 3037000500, 0, api.ErrOver},
	})
}

// Products that wrap round to a small number, to nought or to a negative one.
func TestTimesFarBeyondTheGreatestProduct(t *testing.T) {
	holdBothWays(t, "Times", sums.Times, []row{
		{1 << 32, 1 << 32, 0, api.ErrOver},
		{1 << 32, 1<<32 + 1, 0, api.ErrOver},
		{1<<32 + 1, 1<<32 - 1, 0, api.ErrOver},
		{1 << 62, 4, 0, api.ErrOver},
		{1 << 62, 1 << 62, 0, api.ErrOver},
		{1<<62 + 1, 4, 0, api.ErrOver},
		{greatest, 2, 0, api.ErrOver},
		{greatest, 3, 0, api.ErrOver},
		{greatest, greatest - 1, 0, api.ErrOver},
		{greatest, greatest, 0, api.ErrOver},
	})
}

func TestTimesRefusesNegativeNumbers(t *testing.T) {
	holdBothWays(t, "Times", sums.Times, negatives())
}

func TestTimesOfManyPairs(t *testing.T) {
	eachPair(func(a, b int) {
		hold(t, "Times", sums.Times, exact(a, b, new(big.Int).Mul(bigOf(a), bigOf(b))))
	})
}

// P7.3.

func TestCeilThatComesOutEven(t *testing.T) {
	for _, r := range []row{
		{8, 2, 4, api.OK},
		{9, 3, 3, api.OK},
		{5, 5, 1, api.OK},
		{1 << 40, 1 << 20, 1 << 20, api.OK},
		{greatest - 1, 2, 1<<62 - 1, api.OK},
		{greatest, 7, 1317624576693539401, api.OK},
	} {
		hold(t, "Ceil", sums.Ceil, r)
	}
}

func TestCeilWithARemainder(t *testing.T) {
	for _, r := range []row{
		{7, 2, 4, api.OK},
		{9, 2, 5, api.OK},
		{7, 3, 3, api.OK},
		{8, 3, 3, api.OK},
		{10, 3, 4, api.OK},
		{99, 10, 10, api.OK},
		{101, 10, 11, api.OK},
		{1<<40 + 1, 1 << 20, 1<<20 + 1, api.OK},
		{1<<40 - 1, 1 << 20, 1 << 20, api.OK},
		{greatest - 2, 2, 1<<62 - 1, api.OK},
		{greatest, 2, 1 << 62, api.OK},
		{greatest, 3, greatest/3 + 1, api.OK},
		{greatest, 1 << 62, 2, api.OK},
		{greatest, greatest - 1, 2, api.OK},
	} {
		hold(t, "Ceil", sums.Ceil, r)
	}
}

func TestCeilAtItsEdges(t *testing.T) {
	for _, r := range []row{
		{0, 1, 0, api.OK},
		{0, 5, 0, api.OK},
		{0, greatest, 0, api.OK},
		{1, 1, 1, api.OK},
		{12345, 1, 12345, api.OK},
		{greatest - 1, 1, greatest - 1, api.OK},
		{greatest, 1, greatest, api.OK},
		{1, 2, 1, api.OK},
		{5, 6, 1, api.OK},
		{1, greatest, 1, api.OK},
		{2, greatest, 1, api.OK},
		{greatest - 1, greatest, 1, api.OK},
		{greatest, greatest, 1, api.OK},
	} {
		hold(t, "Ceil", sums.Ceil, r)
	}
}

func TestCeilRefusesWhatCannotBe(t *testing.T) {
	for _, r := range []row{
		{-1, 1, 0, api.ErrArg},
		{-1, 2, 0, api.ErrArg},
		{-8, 2, 0, api.ErrArg},
		{-1, greatest, 0, api.ErrArg},
		{least, 1, 0, api.ErrArg},
		{least, greatest, 0, api.ErrArg},
		{0, 0, 0, api.ErrArg},
		{1, 0, 0, api.ErrArg},
		{greatest, 0, 0, api.ErrArg},
		{0, -1, 0, api.ErrArg},
		{1, -1, 0, api.ErrArg},
		{8, -2, 0, api.ErrArg},
		{greatest, -1, 0, api.ErrArg},
		{0, least, 0, api.ErrArg},
		{greatest, least, 0, api.ErrArg},
		{-1, 0, 0, api.ErrArg},
		{-8, -2, 0, api.ErrArg},
		{least, 0, 0, api.ErrArg},
		{least, -1, 0, api.ErrArg},
		{least, least, 0, api.ErrArg},
	} {
		hold(t, "Ceil", sums.Ceil, r)
	}
}

// Small numbers are tried one after another, as the promise words it.
func TestCeilIsTheSmallest(t *testing.T) {
	for a := range 200 {
		for b := 1; b < 220; b++ {
			n := 0
			for n*b < a {
				n++
			}
			hold(t, "Ceil", sums.Ceil, row{a, b, n, api.OK})
		}
	}
}

// The products are held against a: that of the answer is not less than a, and
// that of the number before it is.
func TestCeilOfManyPairs(t *testing.T) {
	eachPair(func(a, b int) {
		if a < 0 || b < 1 {
			hold(t, "Ceil", sums.Ceil, row{a, b, 0, api.ErrArg})
			return
		}
		n, err := sums.Ceil(a, b)
		enough := new(big.Int).Mul(bigOf(n), bigOf(b))
		tooFew := new(big.Int).Sub(enough, bigOf(b))
		if err != api.OK || enough.Cmp(bigOf(a)) < 0 || tooFew.Cmp(bigOf(a)) >= 0 {
			t.Errorf("Ceil(%d, %d) = %d, %d", a, b, n, err)
		}
	})
}

func TestTheChaptersExample(t *testing.T) {
	hold(t, "Plus", sums.Plus, row{1<<63 - 1, 1, 0, api.ErrOver})
	hold(t, "Times", sums.Times, row{1 << 32, 1 << 31, 0, api.ErrOver})
	hold(t, "Ceil", sums.Ceil, row{7, 2, 4, api.OK})
	if got, err := sums.Sum(); got != 0 || err != api.OK {
		t.Errorf("Sum() = %d, %d", got, err)
	}
}
