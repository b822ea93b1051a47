package number

import (
	"cmp"
	"math/bits"
	"slices"
)

// natural is a whole number above 0 in words of 64 bits, the lowest one first and the last one not 0.
// Powers with exponents of pitches are far beyond an int.
type natural []uint64

// multiplied writes into x, so that a search need not take new memory for each factor.
func multiplied(x natural, by uint64) natural {
	carry := uint64(0)
	for i, word := range x {
		high, low := bits.Mul64(word, by)
		sum, over := bits.Add64(low, carry, 0)
		x[i] = sum
		carry = high + over
	}
	if carry != 0 {
		x = append(x, carry)
	}
	return x
}

// withPower returns x times the power of a factor above 0, and leaves x as it is.
// It gathers factors until a word is full: one pass over x then stands for many of them.
func withPower(x natural, factor uint64, exponent int) natural {
	product := slices.Clone(x)
	gathered := uint64(1)
	for range exponent {
		high, low := bits.Mul64(gathered, factor)
		if high != 0 {
			product = multiplied(product, gathered)
			low = factor
		}
		gathered = low
	}
	return multiplied(product, gathered)
}

func compareNaturals(a, b natural) int {
	if len(a) != len(b) {
		return cmp.Compare(len(a), len(b))
	}
	for i := range a {
		top := len(a) - 1 - i
		if a[top] != b[top] {
			return cmp.Compare(a[top], b[top])
		}
	}
	return 0
}
