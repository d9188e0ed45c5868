package sha

import (
	"math/big"
	"testing"
)

// primes answers the first n primes.
func primes(n int) []int64 {
	var found []int64
	for p := int64(2); len(found) < n; p++ {
		if big.NewInt(p).ProbablyPrime(0) {
			found = append(found, p)
		}
	}
	return found
}

// fraction answers the first 32 bits behind the point of the root of p, of
// the given degree: the greatest x with x^degree <= p*2^(32*degree), without
// its whole part.
func fraction(p int64, degree int64) uint32 {
	bound := new(big.Int).Lsh(big.NewInt(p), uint(32*degree))
	low, high := int64(0), int64(1)<<37
	for high-low > 1 {
		middle := (low + high) / 2
		power := new(big.Int).Exp(big.NewInt(middle), big.NewInt(degree), nil)
		if power.Cmp(bound) <= 0 {
			low = middle
		} else {
			high = middle
		}
	}
	return uint32(low)
}

// P2.1.

func TestRoundWordsAreOfCubeRoots(t *testing.T) {
	for i, p := range primes(len(roundWords)) {
		if want := fraction(p, 3); roundWords[i] != want {
			t.Errorf("roundWords[%d] = %08x, want %08x", i, roundWords[i], want)
		}
	}
}

func TestFirstWordsAreOfSquareRoots(t *testing.T) {
	for i, p := range primes(len(firstWords)) {
		if want := fraction(p, 2); firstWords[i] != want {
			t.Errorf("firstWords[%d] = %08x, want %08x", i, firstWords[i], want)
		}
	}
}

func TestWordsThatTheChapterNames(t *testing.T) {
	if len(roundWords) != 64 || len(firstWords) != 8 {
		t.Errorf("%d and %d words, want 64 and 8", len(roundWords), len(firstWords))
	}
	if roundWords[0] != 0x428a2f98 || roundWords[1] != 0x71374491 || roundWords[63] != 0xc67178f2 {
		t.Errorf("roundWords are %08x, %08x, .., %08x", roundWords[0], roundWords[1], roundWords[63])
	}
	if firstWords[0] != 0x6a09e667 || firstWords[1] != 0xbb67ae85 || firstWords[7] != 0x5be0cd19 {
		t.Errorf("firstWords are %08x, %08x, .., %08x", firstWords[0], firstWords[1], firstWords[7])
	}
}

// P2.2: the form of the message, byte by byte.

func TestTailEndsTheLastBlock(t *testing.T) {
	for n := range 260 {
		end := tail(n)
		if (n+len(end))%64 != 0 || len(end) < 9 || len(end) > 72 {
			t.Errorf("tail(%d) has %d bytes", n, len(end))
			continue
		}
		if end[0] != 0x80 {
			t.Errorf("tail(%d) begins with %02x", n, end[0])
		}
		zeros, count := end[1:len(end)-8], end[len(end)-8:]
		for _, c := range zeros {
			if c != 0 {
				t.Errorf("tail(%d) has %02x among its zeros", n, c)
			}
		}
		if got := new(big.Int).SetBytes(count); got.Int64() != int64(n)*8 {
			t.Errorf("tail(%d) counts %v bits", n, got)
		}
	}
}

// The greatest length of the bound R6 needs more than 32 bits.
func TestTailCountsBitsInEightBytes(t *testing.T) {
	for n, want := range map[int]string{
		32:        "\x00\x00\x00\x00\x00\x00\x01\x00",
		1 << 28:   "\x00\x00\x00\x00\x80\x00\x00\x00",
		1 << 29:   "\x00\x00\x00\x01\x00\x00\x00\x00",
		1<<31 - 1: "\x00\x00\x00\x03\xff\xff\xff\xf8",
	} {
		end := tail(n)
		if got := string(end[len(end)-8:]); got != want {
			t.Errorf("tail(%d) counts % x, want % x", n, got, want)
		}
	}
}
