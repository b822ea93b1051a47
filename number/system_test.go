package number_test

import (
	"math"
	"math/rand/v2"
	"slices"
	"testing"

	"agraffe/api"
	"agraffe/number"
)

func bound(from, to, most int) api.Bound {
	return api.Bound{From: from, To: to, Most: most}
}

func TestCheckSystem(t *testing.T) {
	many := func(n int) []api.Bound { return make([]api.Bound, n) }
	bad := append(many(200), bound(9, 9, math.MaxInt))
	for _, c := range []struct {
		name string
		n    int
		l    []api.Bound
		want api.Errno
	}{
		{"one unknown", 1, nil, api.OK},
		{"no bounds", 60, []api.Bound{}, api.OK},
		{"the ends", 60, []api.Bound{bound(0, 59, 1000000000), bound(59, 0, -1000000000), bound(3, 3, 0)}, api.OK},
		{"200 bounds", 1, many(200), api.OK},
		{"no unknown", 0, nil, api.ErrRange},
		{"61 unknowns", 61, nil, api.ErrRange},
		{"the least n", math.MinInt, nil, api.ErrRange},
		{"n before the count", 0, bad, api.ErrRange},
		{"201 bounds", 1, many(201), api.ErrLarge},
		{"the count before the bounds", 1, bad, api.ErrLarge},
		{"From too great", 2, []api.Bound{bound(2, 0, 0)}, api.ErrMissing},
		{"From below 0", 2, []api.Bound{bound(-1, 0, 0)}, api.ErrMissing},
		{"To too great", 2, []api.Bound{bound(0, 2, 0)}, api.ErrMissing},
		{"To below 0", 2, []api.Bound{bound(0, math.MinInt, 0)}, api.ErrMissing},
		{"Most too great", 2, []api.Bound{bound(0, 1, 1000000001)}, api.ErrRange},
		{"Most too small", 2, []api.Bound{bound(0, 1, -1000000001)}, api.ErrRange},
		{"the least Most", 2, []api.Bound{bound(0, 1, math.MinInt)}, api.ErrRange},
		{"the unknowns before Most", 2, []api.Bound{bound(0, 2, math.MinInt)}, api.ErrMissing},
		{"the first bound decides", 2, []api.Bound{bound(0, 1, 1000000001), bound(2, 0, 0)}, api.ErrRange},
		{"the first bound decides again", 2, []api.Bound{bound(0, 1, 1), bound(2, 0, 0), bound(0, 1, 1000000001)}, api.ErrMissing},
	} {
		wantErr(t, c.name, number.CheckSystem(c.n, c.l), c.want)
		x, circle, e := number.Solve(c.n, c.l)
		wantErr(t, "Solve: "+c.name, e, c.want)
		if e != api.OK && (x != nil || circle != nil) {
			t.Error(c.name, x, circle)
		}
		sum, e := number.CheckCircle(c.n, c.l, nil)
		if c.want == api.OK {
			c.want = api.ErrShape
		}
		wantErr(t, "CheckCircle: "+c.name, e, c.want)
		if sum != 0 {
			t.Error(c.name, sum)
		}
	}
}

func TestSolve(t *testing.T) {
	for _, c := range []struct {
		n    int
		l    []api.Bound
		want []int
	}{
		{3, []api.Bound{bound(0, 1, 2), bound(1, 2, -3), bound(2, 0, 4)}, []int{0, 0, -3}},
		{3, nil, []int{0, 0, 0}},
		{1, []api.Bound{bound(0, 0, 0)}, []int{0}},
		{2, []api.Bound{bound(0, 1, -5), bound(1, 0, 5)}, []int{0, -5}},
		{2, []api.Bound{bound(0, 1, -5), bound(0, 1, -7), bound(0, 1, -6)}, []int{0, -7}},
		{4, []api.Bound{bound(2, 3, -1), bound(1, 2, -1), bound(0, 1, -1)}, []int{0, -1, -2, -3}},
		{2, []api.Bound{bound(0, 1, -1000000000), bound(1, 0, 1000000000)}, []int{0, -1000000000}},
	} {
		x, circle, e := number.Solve(c.n, c.l)
		if !slices.Equal(x, c.want) || len(circle) != 0 || e != api.OK {
			t.Errorf("Solve of %v: %v, %v, %d, want %v", c.l, x, circle, e, c.want)
		}
	}
}

func TestSolveFindsCircles(t *testing.T) {
	for _, c := range []struct {
		n   int
		l   []api.Bound
		sum int
	}{
		{3, []api.Bound{bound(0, 1, 2), bound(1, 2, -3), bound(2, 0, 0)}, -1},
		{1, []api.Bound{bound(0, 0, -1)}, -1},
		{5, []api.Bound{bound(1, 2, 5), bound(3, 3, -7), bound(3, 4, 0)}, -7},
		{2, []api.Bound{bound(0, 1, -1000000000), bound(1, 0, -1000000000)}, -2000000000},
		{4, []api.Bound{bound(1, 0, -9), bound(1, 2, 3), bound(2, 3, 3), bound(3, 1, -7), bound(0, 0, 4)}, -1},
	} {
		x, circle, e := number.Solve(c.n, c.l)
		if len(x) != 0 || len(circle) > c.n || e != api.ErrCycle {
			t.Errorf("Solve of %v: %v, %v, %d, want a circle", c.l, x, circle, e)
		}
		if sum, e := number.CheckCircle(c.n, c.l, circle); sum != c.sum || e != api.OK {
			t.Errorf("CheckCircle of %v, %v: %d, %d, want %d", c.l, circle, sum, e, c.sum)
		}
	}
}

// A chain whose bounds are listed against its direction takes all rounds; closing it makes the longest circle.
func TestSolveLongestSystem(t *testing.T) {
	const n = api.MaxUnknowns
	var chain []api.Bound
	for i := n - 1; i > 0; i-- {
		chain = append(chain, bound(i-1, i, -1000000000))
	}
	x, _, e := number.Solve(n, chain)
	if e != api.OK || len(x) != n || x[n-1] != -(n-1)*1000000000 {
		t.Fatal(x, e)
	}
	for closing, want := range map[int]int{59: -1, 60: 0} {
		steps := slices.Clone(chain)
		for i := range steps {
			steps[i].Most = -1
		}
		steps = append(steps, bound(n-1, 0, closing-1))
		x, circle, e := number.Solve(n, steps)
		if want == 0 {
			if e != api.OK || x[n-1] != -(n-1) {
				t.Error(x, e)
			}
			continue
		}
		if e != api.ErrCycle || len(circle) != n {
			t.Fatal(circle, e)
		}
		if sum, e := number.CheckCircle(n, steps, circle); sum != want || e != api.OK {
			t.Error(sum, e)
		}
	}
}

func TestCheckCircle(t *testing.T) {
	l := []api.Bound{bound(0, 1, 2), bound(1, 2, -3), bound(2, 0, 0), bound(1, 1, -1), bound(0, 2, -1), bound(2, 2, 0), bound(2, 0, 1)}
	for _, c := range []struct {
		name   string
		circle []int
		sum    int
		want   api.Errno
	}{
		{"three bounds", []int{0, 1, 2}, -1, api.OK},
		{"begun elsewhere", []int{1, 2, 0}, -1, api.OK},
		{"one bound", []int{3}, -1, api.OK},
		{"a bound twice", []int{3, 3}, -2, api.OK},
		{"a circle within a circle", []int{0, 3, 1, 2}, -2, api.OK},
		{"60 bounds", slices.Repeat([]int{3}, 60), -60, api.OK},
		{"nil", nil, 0, api.ErrShape},
		{"none", []int{}, 0, api.ErrShape},
		{"61 bounds", slices.Repeat([]int{3}, 61), 0, api.ErrShape},
		{"61 missing bounds", slices.Repeat([]int{9}, 61), 0, api.ErrShape},
		{"a missing bound", []int{0, 7}, 0, api.ErrMissing},
		{"a bound below 0", []int{-1}, 0, api.ErrMissing},
		{"a missing bound behind a gap", []int{0, 0, 7}, 0, api.ErrMissing},
		{"the extremes", []int{math.MaxInt}, 0, api.ErrMissing},
		{"a gap", []int{0, 2}, 0, api.ErrOpen},
		{"a gap in the middle", []int{1, 0, 2}, 0, api.ErrOpen},
		{"not closed", []int{0, 1}, 0, api.ErrOpen},
		{"one that is not closed", []int{1}, 0, api.ErrOpen},
		{"against its direction", []int{2, 1, 0}, 0, api.ErrOpen},
		{"a gap and no negative sum", []int{0, 0}, 0, api.ErrOpen},
		{"a sum of 0", []int{5}, 0, api.ErrProof},
		{"a sum of 0 of several", []int{4, 6}, 0, api.ErrProof},
		{"a positive sum", []int{0, 1, 6, 4, 6}, 0, api.ErrProof},
	} {
		if sum, e := number.CheckCircle(3, l, c.circle); sum != c.sum || e != c.want {
			t.Errorf("%s: %d, %d, want %d, %d", c.name, sum, e, c.sum, c.want)
		}
	}
	l[6].Most = 5
	if sum, e := number.CheckCircle(3, l, []int{0, 1, 6}); sum != 0 || e != api.ErrProof {
		t.Error(sum, e)
	}
}

func randomSystem(r *rand.Rand) (int, []api.Bound) {
	n := from(r, 1, 12)
	least := from(r, -10, 3)
	var l []api.Bound
	for range from(r, 0, 3*n) {
		l = append(l, bound(r.IntN(n), r.IntN(n), from(r, least, 20)))
	}
	return n, l
}

// leastSums are the least sums of bounds from each unknown to each other one (all of them, by way of each unknown in turn).
func leastSums(n int, l []api.Bound) [][]int {
	const none = 1 << 40
	sums := make([][]int, n)
	for i := range sums {
		sums[i] = slices.Repeat([]int{none}, n)
		sums[i][i] = 0
	}
	for _, b := range l {
		sums[b.From][b.To] = min(sums[b.From][b.To], b.Most)
	}
	for k := range n {
		for i := range n {
			for j := range n {
				if sums[i][k] < none && sums[k][j] < none {
					sums[i][j] = min(sums[i][j], sums[i][k]+sums[k][j])
				}
			}
		}
	}
	return sums
}

func TestSolveAgainstLeastSums(t *testing.T) {
	r := dice()
	solved := 0
	for range 5000 {
		n, l := randomSystem(r)
		sums := leastSums(n, l)
		possible := true
		want := make([]int, n)
		for i := range n {
			possible = possible && sums[i][i] >= 0
			for j := range n {
				want[j] = min(want[j], sums[i][j])
			}
		}
		x, circle, e := number.Solve(n, l)
		if possible {
			solved++
			if e != api.OK || !slices.Equal(x, want) || len(circle) != 0 {
				t.Fatal(n, l, x, circle, e, want)
			}
			continue
		}
		if e != api.ErrCycle || len(x) != 0 || len(circle) < 1 || len(circle) > n {
			t.Fatal(n, l, x, circle, e)
		}
		if sum, e := number.CheckCircle(n, l, circle); e != api.OK || sum >= 0 {
			t.Fatal(n, l, circle, sum, e)
		}
	}
	if solved < 500 || solved > 4500 {
		t.Error(solved, "of 5000 systems have a solution")
	}
}

// All numbers from -6 to 0 are tried: what keeps the bounds is nowhere greater than the solution.
func TestSolveReturnsTheGreatest(t *testing.T) {
	r := dice()
	keeps := func(x []int, l []api.Bound) bool {
		return !slices.ContainsFunc(l, func(b api.Bound) bool { return x[b.To]-x[b.From] > b.Most })
	}
	for range 300 {
		var l []api.Bound
		for range from(r, 1, 5) {
			l = append(l, bound(r.IntN(3), r.IntN(3), from(r, -2, 3)))
		}
		x, _, e := number.Solve(3, l)
		if e == api.OK && !keeps(x, l) {
			t.Fatal(l, x)
		}
		for i := range 7 * 7 * 7 {
			y := []int{-(i % 7), -(i / 7 % 7), -(i / 49)}
			if keeps(y, l) && (e != api.OK || y[0] > x[0] || y[1] > x[1] || y[2] > x[2]) {
				t.Fatal(l, x, e, y)
			}
		}
	}
}
