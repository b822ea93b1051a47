package plate_test

import (
	"math"
	"slices"
	"testing"

	"agraffe/api"
	"agraffe/plate"
)

// P3.3: the error of bars, ahead of that of the loads.
func TestCheckBars(t *testing.T) {
	many := make([]int, 21)
	for i := range many {
		many[i] = i
	}
	for _, c := range []struct {
		what string
		at   []int
		want api.Errno
	}{
		{"two", []int{-20000, 20000}, api.OK},
		{"20", many[:20], api.OK},
		{"none", nil, api.ErrShape},
		{"one", []int{20001}, api.ErrShape},
		{"21", many, api.ErrShape},
		{"too far behind", []int{-20001, 0}, api.ErrRange},
		{"too far ahead", []int{0, 20001}, api.ErrRange},
		{"equal", []int{5, 5}, api.ErrOrder},
		{"falling", []int{0, 5, 4}, api.ErrOrder},
		{"falling and too far", []int{0, -20001}, api.ErrRange},
		{"falling, then too far", []int{0, 5, 4, 20001}, api.ErrOrder},
		{"the extremes", []int{math.MinInt, math.MaxInt}, api.ErrRange},
	} {
		wantErr(t, "CheckBars: "+c.what, plate.CheckBars(c.at), c.want)
		if c.want != api.OK {
			l, e := plate.Distribute(c.at, make([][2]int, 101))
			wantErr(t, "Distribute: "+c.what, e, c.want)
			if l != nil {
				t.Errorf("%s: %v beside an error", c.what, l)
			}
		}
	}
}

// wrongLoads are the errors of loads from 10 to 20, for bars and girders.
var wrongLoads = []struct {
	what string
	l    [][2]int
	want api.Errno
}{
	{"none", nil, api.OK},
	{"at both ends", [][2]int{{10, 1000000}, {20, -1000000}}, api.OK},
	{"100", slices.Repeat([][2]int{{10, 0}}, 100), api.OK},
	{"101", slices.Repeat([][2]int{{9, 0}}, 101), api.ErrLarge},
	{"ahead of the first place", [][2]int{{9, 0}}, api.ErrRange},
	{"behind the last place", [][2]int{{15, 0}, {21, 0}}, api.ErrRange},
	{"too great", [][2]int{{15, 1000001}}, api.ErrRange},
	{"too great upward", [][2]int{{15, -1000001}}, api.ErrRange},
	{"the least int", [][2]int{{math.MinInt, math.MinInt}}, api.ErrRange},
	{"the least load", [][2]int{{15, math.MinInt}}, api.ErrRange},
}

// P3.3: the error of the loads.
func TestLoadErrorsOnBars(t *testing.T) {
	for _, c := range wrongLoads {
		l, e := plate.Distribute([]int{10, 12, 20}, c.l)
		wantErr(t, c.what, e, c.want)
		if e != api.OK && l != nil {
			t.Errorf("%s: %v beside an error", c.what, l)
		}
	}
}

// P3.3: the example, loads at bars, and fractions in lowest terms.
func TestDistribute(t *testing.T) {
	for _, c := range []struct {
		what string
		at   []int
		l    [][2]int
		want []api.Frac
	}{
		{"the example", []int{0, 100, 300}, [][2]int{{50, 60}, {200, 90}, {300, 10}}, []api.Frac{frac(30, 1), frac(75, 1), frac(55, 1)}},
		{"no loads", []int{0, 100, 300}, nil, []api.Frac{frac(0, 1), frac(0, 1), frac(0, 1)}},
		{"at each bar", []int{-7, 100, 300}, [][2]int{{-7, 3}, {100, 4}, {300, -5}}, []api.Frac{frac(3, 1), frac(4, 1), frac(-5, 1)}},
		{"thirds", []int{0, 3}, [][2]int{{1, 10}}, []api.Frac{frac(20, 3), frac(10, 3)}},
		{"lowest terms", []int{0, 6}, [][2]int{{2, 5}, {4, -1}}, []api.Frac{frac(3, 1), frac(1, 1)}},
		{"two denominators", []int{0, 3, 8}, [][2]int{{1, 1}, {7, 1}}, []api.Frac{frac(2, 3), frac(8, 15), frac(4, 5)}},
		{"upward", []int{-5, 5}, [][2]int{{0, -3}}, []api.Frac{frac(-3, 2), frac(-3, 2)}},
		{"what cancels", []int{0, 10}, [][2]int{{3, 7}, {3, -7}}, []api.Frac{frac(0, 1), frac(0, 1)}},
		{"beyond MaxPart", []int{-20000, -1, 20000}, slices.Repeat([][2]int{{-20000, 1000000}, {-2, 1000000}}, 50),
			[]api.Frac{frac(50000000*20000, 19999), frac(50000000*19998, 19999), frac(0, 1)}},
		{"a denominator of two stretches", []int{-20000, -1, 20000}, [][2]int{{-2, 1000000}, {0, 999999}},
			[]api.Frac{frac(1000000, 19999), frac((19998*1000000*20001+20000*999999*19999)/3, 19999*20001/3), frac(333333, 6667)}},
	} {
		l, e := plate.Distribute(c.at, c.l)
		if e != api.OK || !slices.Equal(l, c.want) {
			t.Errorf("%s: %v, error %d, want %v", c.what, l, e, c.want)
		}
	}
}

// P3.3 and P3.9: each share by the lever rule, with big numbers; the loads of all bars add up to all loads, and so do their moments.
func TestDistributeAgainstBig(t *testing.T) {
	r := dice()
	for i := range 300 {
		bars := randomBars(r, from(r, 2, 20), []int{20, 300, 20000}[i%3])
		loads := randomLoads(r, r.IntN(101), bars[0], bars[len(bars)-1], 1000000)
		for range len(bars) {
			if len(loads) < 100 {
				loads = append(loads, [2]int{bars[r.IntN(len(bars))], from(r, -1000000, 1000000)})
			}
		}
		got, e := plate.Distribute(bars, loads)
		if e != api.OK || len(got) != len(bars) {
			t.Fatal(bars, loads, got, e)
		}
		total, moment := whole(0), whole(0)
		for i, x := range bars {
			want := whole(0)
			for _, l := range loads {
				share := whole(0)
				switch {
				case l[0] == x:
					share = whole(1)
				case i > 0 && bars[i-1] < l[0] && l[0] < x:
					share = quotient(whole(l[0]-bars[i-1]), whole(x-bars[i-1]))
				case i+1 < len(bars) && x < l[0] && l[0] < bars[i+1]:
					share = quotient(whole(bars[i+1]-l[0]), whole(bars[i+1]-x))
				}
				want = sum(want, product(share, whole(l[1])))
			}
			if !isExactly(got[i], want) {
				t.Fatalf("%v with %v: bar %d has %v, want %v", bars, loads, i, got[i], want)
			}
			total = sum(total, ratOf(got[i]))
			moment = sum(moment, product(ratOf(got[i]), whole(x)))
		}
		allLoads, allMoments := whole(0), whole(0)
		for _, l := range loads {
			allLoads = sum(allLoads, whole(l[1]))
			allMoments = sum(allMoments, whole(l[0]*l[1]))
		}
		if total.Cmp(allLoads) != 0 || moment.Cmp(allMoments) != 0 {
			t.Fatal(bars, loads, got, total, moment)
		}
	}
}
