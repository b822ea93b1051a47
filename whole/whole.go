// Package whole is no chapter: it holds what the layers have in common for whole numbers, which are their bounds,
// their divisions, and the fractions that they make.
package whole

import "agraffe/api"

// Between tells whether n is from low to high.
func Between(n, low, high int) bool {
	return low <= n && n <= high
}

// Within tells whether n is at most most in size.
// It compares without turning a sign: the least int has no positive counterpart.
func Within(n, most int) bool {
	return Between(n, -most, most)
}

// RangeError is for a number that has to be from low to high.
func RangeError(n, low, high int) api.Errno {
	if !Between(n, low, high) {
		return api.ErrRange
	}
	return api.OK
}

// Inside tells whether a range is one of numbers from low to high.
func Inside(r api.Range, low, high int) bool {
	return low <= r.Lo && r.Lo <= r.Hi && r.Hi <= high
}

// AscentError is for numbers from low to high, each greater than the one before.
func AscentError(l []int, low, high int) api.Errno {
	for i, n := range l {
		if !Between(n, low, high) {
			return api.ErrRange
		}
		if i > 0 && n <= l[i-1] {
			return api.ErrOrder
		}
	}
	return api.OK
}

// Size is unsigned because the size of the least int is no int.
func Size(n int) uint64 {
	if n < 0 {
		return -uint64(n)
	}
	return uint64(n)
}

// CommonDivisor returns the greatest common divisor; that of 0 and a number is this number.
func CommonDivisor(a, b uint64) uint64 {
	for b != 0 {
		a, b = b, a%b
	}
	return a
}

// Down divides by a positive number, rounded down; Go's own division rounds towards 0.
func Down(n, by int) int {
	quotient := n / by
	if n%by < 0 {
		quotient--
	}
	return quotient
}

// Up divides by a positive number, rounded up.
func Up(n, by int) int {
	quotient := n / by
	if n%by > 0 {
		quotient++
	}
	return quotient
}

// Reduced returns a fraction in lowest terms; it takes a denominator above 0.
func Reduced(num, den int) api.Frac {
	divisor := int(CommonDivisor(Size(num), Size(den)))
	return api.Frac{Num: num / divisor, Den: den / divisor}
}
