package number_test

import (
	"math/big"
	"slices"
	"testing"

	"agraffe/api"
	"agraffe/number"
)

// R2: no function panics, and each one ends, whatever its numbers are.
func TestExtremes(t *testing.T) {
	for _, a := range extremes {
		for _, b := range extremes {
			f, g := frac(a, b), frac(b, a)
			number.CheckFrac(f)
			number.Add(f, g)
			number.Times(f, g)
			number.Divide(f, g)
			number.Compare(f, g)
			number.Rounded(f, a)
			number.Root(a, b)
			number.FormatFrac(f)
			r := span(a, b)
			number.CheckRange(r)
			number.Plus(r, r)
			number.Scaled(r, g)
			number.Scaled(span(-most, most), f)
			number.Meet(r, span(b, a))
			for _, p := range []api.Pitch{pitch(a, b, a, b), pitch(a, 1, 2, 3), pitch(1, a, b, 12), pitch(1, 2, 3, a)} {
				number.CheckPitch(p)
				number.Normal(p)
				number.Join(p, p)
				number.Power(p, f)
				number.Order(p, pitch(1, 1, 1, 1))
				number.Octave(p)
				number.Enclose(p, b)
			}
			l := []api.Bound{bound(a, b, a), bound(0, b, a), bound(0, 0, b)}
			for _, n := range []int{a, 1, 60} {
				number.CheckSystem(n, l)
				number.Solve(n, l)
				number.CheckCircle(n, l[2:], []int{a, b})
			}
			d := dots(a, b, b, a, a, b)
			number.Line(d)
			number.CheckLine(dots(0, 0, 1, 1, 2, 3), api.Trend{Start: f, Slope: g, Error: f, Proof: [3]int{a, b, a}})
			number.CheckLine(d, api.Trend{Start: frac(1, 1), Slope: frac(1, 1), Error: frac(1, 1)})
		}
	}
}

// R3: arguments stay as they are, and results are memory of their own.
func TestMemory(t *testing.T) {
	l := []api.Bound{bound(0, 1, 2), bound(1, 2, -3), bound(2, 0, 0)}
	d := dots(0, 0, 1, 1, 2, 0, 5, 7)
	bounds, places, circle := slices.Clone(l), slices.Clone(d), []int{0, 1, 2}
	_, first, _ := number.Solve(3, l)
	first[0] = 99
	_, second, _ := number.Solve(3, l)
	if slices.Contains(second, 99) {
		t.Error("circles share memory", second)
	}
	number.CheckCircle(3, l, circle)
	line, _ := number.Line(d)
	number.CheckLine(d, line)
	if !slices.Equal(l, bounds) || !slices.Equal(d, places) || !slices.Equal(circle, []int{0, 1, 2}) {
		t.Error("an argument was changed", l, d, circle)
	}
	l[2].Most = 4
	solved, _, _ := number.Solve(3, l)
	solved[0] = 99
	if again, _, _ := number.Solve(3, l); again[0] != 0 {
		t.Error("solutions share memory", again)
	}
}

// P1.9: Compare and Order are orders.
func TestOrders(t *testing.T) {
	r := dice()
	for i := range 2000 {
		f := []api.Frac{randomFrac(r), randomFrac(r), randomFrac(r)}
		isOrder(t, f, number.Compare)
		size := 1 + i%20
		isOrder(t, []api.Pitch{randomPitch(r, size), randomPitch(r, size), randomPitch(r, size)}, number.Order)
	}
}

func isOrder[T any](t *testing.T, l []T, order func(a, b T) (int, api.Errno)) {
	t.Helper()
	compare := func(a, b T) int {
		n, e := order(a, b)
		if e != api.OK || n < -1 || n > 1 {
			t.Fatal(a, b, n, e)
		}
		return n
	}
	for _, a := range l {
		if compare(a, a) != 0 {
			t.Fatal(a)
		}
		for _, b := range l {
			if compare(a, b) != -compare(b, a) {
				t.Fatal(a, b)
			}
			for _, c := range l {
				if compare(a, b) <= 0 && compare(b, c) <= 0 && compare(a, c) > 0 {
					t.Fatal(a, b, c)
				}
			}
		}
	}
}

// P1.9: Join and Add do not depend on the order of their arguments, and a third pitch does not change an order.
func TestJoinKeepsOrder(t *testing.T) {
	r := dice()
	joined := 0
	for range 3000 {
		f, g := randomFrac(r), randomFrac(r)
		sum, e := number.Add(f, g)
		if other, e2 := number.Add(g, f); other != sum || e2 != e {
			t.Fatal(f, g, sum, other)
		}
		p, q, third := randomPitch(r, 100), randomPitch(r, 100), randomPitch(r, 100)
		both, e := number.Join(p, q)
		if other, e2 := number.Join(q, p); other != both || e2 != e {
			t.Fatal(p, q, both, other)
		}
		a, e := number.Join(p, third)
		b, e2 := number.Join(q, third)
		if e != api.OK || e2 != api.OK {
			continue
		}
		joined++
		before, _ := number.Order(p, q)
		if behind, _ := number.Order(a, b); behind != before {
			t.Fatal(p, q, third, before, behind)
		}
	}
	if joined < 100 {
		t.Error("only", joined, "pairs were joined")
	}
}

// P1.9: the 12th power of a semitone is an octave.
func TestTwelveSemitones(t *testing.T) {
	if p, e := number.Power(pitch(1, 0, 0, 12), frac(12, 1)); e != api.OK || p != pitch(1, 0, 0, 1) {
		t.Error(p, e)
	}
}

// P1.10: enclosures are nested, and as narrow as whole numbers allow; one octave more is one octave more.
func TestNestedEnclosures(t *testing.T) {
	r := dice()
	for range 2000 {
		p := randomPitch(r, 40)
		m, n := from(r, 1, 1000), from(r, 1, 1000000)
		outer, e := number.Enclose(p, n)
		inner, e2 := number.Enclose(p, m*n)
		if e == api.OK && e2 == api.OK && (inner.Lo < m*outer.Lo || inner.Hi > m*outer.Hi) {
			t.Fatal(p, m, n, outer, inner)
		}
		if e == api.OK && outer.Hi-outer.Lo != 0 && outer.Hi-outer.Lo != 1 {
			t.Fatal(p, n, outer)
		}
		rest, octaves, e := number.Octave(p)
		higher, e2 := number.Join(p, pitch(1, 0, 0, 1))
		if e != api.OK || e2 != api.OK {
			continue
		}
		if again, more, e := number.Octave(higher); e != api.OK || again != rest || more != octaves+1 {
			t.Fatal(p, rest, octaves, again, more, e)
		}
	}
}

// P1.11: no line has a lesser greatest error; lines close beside the best one and far from it are tried.
func TestNoLineIsBetter(t *testing.T) {
	r := dice()
	for range 200 {
		l := randomDots(r, from(r, 3, 20), 1000)
		best, e := number.Line(l)
		if e != api.OK {
			t.Fatal(l, e)
		}
		for range 10 {
			start, slope := ratOf(best.Start), ratOf(best.Slope)
			by := from(r, 1, 100000)
			start.Add(start, big.NewRat(int64(from(r, -2, 2)), int64(by)))
			slope.Add(slope, big.NewRat(int64(from(r, -2, 2)), int64(by)))
			if greatestError(l, start, slope).Cmp(ratOf(best.Error)) < 0 {
				t.Fatal(l, best, start, slope)
			}
		}
	}
}
