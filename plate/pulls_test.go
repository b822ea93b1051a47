package plate_test

import (
	"math"
	"math/big"
	"math/rand/v2"
	"testing"

	"agraffe/api"
	"agraffe/plate"
)

// P3.1: the examples, and pulls whose rounding shows.
func TestPullOf(t *testing.T) {
	for _, c := range []struct {
		what     string
		tension  api.Range
		from, to [3]int
		want     [3]api.Range
	}{
		{"a whole length", span(1000, 1000), at(0, 0, 0), at(300, 400, 0), [3]api.Range{span(600, 600), span(800, 800), span(0, 0)}},
		{"a root that is none", span(1000, 1000), at(0, 0, 0), at(100, 100, 0), [3]api.Range{span(707, 708), span(707, 708), span(0, 0)}},
		{"from elsewhere", span(1000, 1000), at(-50, 7, 9), at(50, 107, 9), [3]api.Range{span(707, 708), span(707, 708), span(0, 0)}},
		{"the other way round", span(1000, 1000), at(100, 100, 0), at(0, 0, 0), [3]api.Range{span(-708, -707), span(-708, -707), span(0, 0)}},
		{"up and down", span(1000, 1000), at(0, 0, 5), at(100, -100, 5), [3]api.Range{span(707, 708), span(-708, -707), span(0, 0)}},
		{"a range", span(1000, 2000), at(0, 0, 0), at(-300, 400, 0), [3]api.Range{span(-1200, -600), span(800, 1600), span(0, 0)}},
		{"a range that is rounded", span(1, 2), at(0, 0, 0), at(0, 3, -4), [3]api.Range{span(0, 0), span(0, 2), span(-2, 0)}},
		{"no tension", span(0, 0), at(0, 0, 0), at(7, -8, 9), [3]api.Range{}},
		{"perhaps no tension", span(0, 10), at(0, 0, 0), at(0, -1, 0), [3]api.Range{span(0, 0), span(-10, 0), span(0, 0)}},
		{"the shortest way", span(7, 7), at(0, 0, 0), at(0, 0, 1), [3]api.Range{span(0, 0), span(0, 0), span(7, 7)}},
		{"the greatest tension", span(10000000000, 10000000000), at(-1000000, 0, 1000000), at(0, 0, 1000000), [3]api.Range{span(10000000000, 10000000000), span(0, 0), span(0, 0)}},
		{"the longest way", span(10000000000, 10000000000), at(1000000, -1000000, 0), at(0, 0, 1000000),
			// The root of 3 times 10^16 lies between 173205080 and 173205081.
			[3]api.Range{span(-5773502718, -5773502683), span(5773502683, 5773502718), span(5773502683, 5773502718)}},
	} {
		if p, e := plate.PullOf(c.tension, c.from, c.to); p != c.want || e != api.OK {
			t.Errorf("%s: %v, error %d, want %v", c.what, p, e, c.want)
		}
	}
}

// P3.1: the errors, in their order, each at the first number beyond its limit.
func TestPullErrors(t *testing.T) {
	one, zero, far := span(1, 1), at(0, 0, 0), at(1000001, 0, 0)
	for _, c := range []struct {
		what     string
		tension  api.Range
		from, to [3]int
		want     api.Errno
	}{
		{"below 0", span(-1, 1), zero, at(1, 0, 0), api.ErrRange},
		{"turned", span(2, 1), zero, at(1, 0, 0), api.ErrRange},
		{"too great", span(1, 10000000001), zero, at(1, 0, 0), api.ErrRange},
		{"a place too far", one, far, at(1000000, 0, 0), api.ErrRange},
		{"a goal too far", one, at(0, 0, -1000000), at(0, 0, -1000001), api.ErrRange},
		{"equal places too far", one, far, far, api.ErrRange},
		{"a way of 1000001", one, at(0, -1, 0), at(0, 1000000, 0), api.ErrRange},
		{"a way of 1000001 back", one, at(0, 0, 1000000), at(0, 0, -1), api.ErrRange},
		{"a way of 1000000", one, at(0, -1, 0), at(0, 999999, 0), api.OK},
		{"equal places", one, at(1, 2, 3), at(1, 2, 3), api.ErrZero},
		{"equal places, no tension", span(0, 0), zero, zero, api.ErrZero},
		{"equal places, a wrong tension", span(1, 0), zero, zero, api.ErrRange},
		{"the least ints", one, at(math.MinInt, 0, 0), at(math.MinInt, 0, 0), api.ErrRange},
		{"a way beyond ints", one, at(0, math.MinInt, 0), at(0, math.MaxInt, 0), api.ErrRange},
	} {
		p, e := plate.PullOf(c.tension, c.from, c.to)
		wantErr(t, c.what, e, c.want)
		if e != api.OK && p != [3]api.Range{} {
			t.Errorf("%s: %v beside an error", c.what, p)
		}
	}
}

// rootOf returns the chapter's s for the sum of squares, with big numbers.
func rootOf(squares int) (*big.Rat, *big.Rat) {
	n := new(big.Int).Mul(big.NewInt(10000), big.NewInt(int64(squares)))
	low := new(big.Int).Sqrt(n)
	high := new(big.Int).Set(low)
	if new(big.Int).Mul(low, low).Cmp(n) < 0 {
		high.Add(high, big.NewInt(1))
	}
	return new(big.Rat).SetInt(low), new(big.Rat).SetInt(high)
}

// randomString returns a tension and two places, of which many lie close to each other.
func randomString(r *rand.Rand) (api.Range, [3]int, [3]int) {
	most := []int{3, 100, 10000, 500000}[r.IntN(4)]
	tension := span(from(r, 0, 100000), 0)
	tension.Hi = tension.Lo + from(r, 0, 50)*from(r, 0, 100000000)
	return tension, randomVector(r, most), randomVector(r, most)
}

// P3.1 and P3.9: components are worked out with big numbers; they enclose T d / |d|, compared by squares.
func TestPullsAgainstBig(t *testing.T) {
	r := dice()
	pulled := 0
	for range 5000 {
		tension, a, b := randomString(r)
		if a == b {
			continue
		}
		pulled++
		p, e := plate.PullOf(tension, a, b)
		wantErr(t, "PullOf", e, api.OK)
		squares := 0
		for i := range a {
			squares += (b[i] - a[i]) * (b[i] - a[i])
		}
		low, high := rootOf(squares)
		for i := range a {
			d := b[i] - a[i]
			size := max(d, -d)
			want := span(roundedDown(quotient(whole(100*tension.Lo*size), high)), roundedUp(quotient(whole(100*tension.Hi*size), low)))
			if d < 0 {
				want = span(-want.Hi, -want.Lo)
			}
			if d == 0 {
				want = span(0, 0)
			}
			if p[i] != want {
				t.Fatalf("%v from %v to %v: %v, want %v", tension, a, b, p, want)
			}
			wantEnclosed(t, p[i], tension.Lo, d, squares)
			wantEnclosed(t, p[i], tension.Hi, d, squares)
		}
	}
	if pulled < 4000 {
		t.Error("only", pulled, "strings")
	}
}

// wantEnclosed compares n |d| with T d for n at both ends of a range.
func wantEnclosed(t *testing.T, p api.Range, tension, d, squares int) {
	t.Helper()
	square := func(n int) *big.Rat { return product(whole(n), whole(n)) }
	exact := product(square(tension), square(d))
	signed := func(n int) *big.Rat {
		x := product(square(n), whole(squares))
		if n < 0 {
			x.Neg(x)
		}
		return x
	}
	if d < 0 {
		exact.Neg(exact)
	}
	if signed(p.Lo).Cmp(exact) > 0 || signed(p.Hi).Cmp(exact) < 0 {
		t.Fatalf("%v does not enclose %d times %d by the root of %d", p, tension, d, squares)
	}
}

// P3.9: the pull the other way round is the opposite one.
func TestOppositePulls(t *testing.T) {
	r := dice()
	for range 2000 {
		tension, a, b := randomString(r)
		there, e := plate.PullOf(tension, a, b)
		back, e2 := plate.PullOf(tension, b, a)
		if e != e2 {
			t.Fatal(a, b, e, e2)
		}
		for i := range there {
			if there[i] != span(-back[i].Hi, -back[i].Lo) {
				t.Fatal(tension, a, b, there, back)
			}
		}
	}
}
