package plate_test

import (
	"math"
	"math/big"
	"reflect"
	"slices"
	"testing"

	"agraffe/api"
	"agraffe/plate"
)

// couple is that of the chapter's examples.
func couple() []api.Pulled {
	return []api.Pulled{{At: at(100, 0, 0), Force: at(0, 0, -10)}, {At: at(0, 0, 0), Force: at(0, 0, 10)}}
}

// P3.2: the error of forces, which all functions with forces return first.
func TestForceErrors(t *testing.T) {
	fine := api.Pulled{At: at(1000000, -1000000, 1000000), Force: at(-1000000000, 1000000000, -1000000000)}
	far, strong := []api.Pulled{fine, {At: at(0, 0, 1000001)}}, []api.Pulled{fine, {Force: at(0, -1000000001, 0)}}
	for _, c := range []struct {
		what string
		l    []api.Pulled
		want api.Errno
	}{
		{"none", nil, api.OK},
		{"300", slices.Repeat([]api.Pulled{fine}, 300), api.OK},
		{"301", make([]api.Pulled, 301), api.ErrLarge},
		{"301 wrong ones", slices.Repeat(far, 151), api.ErrLarge},
		{"x too far", []api.Pulled{{At: at(-1000001, 0, 0)}}, api.ErrRange},
		{"y too far", []api.Pulled{{At: at(0, 1000001, 0)}}, api.ErrRange},
		{"z too far", far, api.ErrRange},
		{"x too strong", []api.Pulled{{Force: at(1000000001, 0, 0)}}, api.ErrRange},
		{"y too strong", strong, api.ErrRange},
		{"z too strong", []api.Pulled{{Force: at(0, 0, 1000000001)}}, api.ErrRange},
		{"the least int", []api.Pulled{{At: at(math.MinInt, 0, 0), Force: at(math.MinInt, 0, 0)}}, api.ErrRange},
	} {
		wantErr(t, "CheckForces: "+c.what, plate.CheckForces(c.l), c.want)
		force, e := plate.Sum(c.l)
		wantErr(t, "Sum: "+c.what, e, c.want)
		moment, e := plate.Moment(c.l, at(0, 0, 0))
		wantErr(t, "Moment: "+c.what, e, c.want)
		is, e := plate.Balanced(c.l)
		wantErr(t, "Balanced: "+c.what, e, c.want)
		x, m, e := plate.Balance(c.l, at(1, 2, 3))
		wantErr(t, "Balance: "+c.what, e, c.want)
		moved, e := plate.Move(c.l, at(0, 0, 0))
		wantErr(t, "Move: "+c.what, e, c.want)
		text, e := plate.Print(c.l)
		wantErr(t, "Print: "+c.what, e, c.want)
		if c.want != api.OK && (force != [3]int{} || moment != [3]int{} || is || x != api.Pulled{} || m != [3]int{} || len(moved) > 0 || text != "") {
			t.Errorf("%s: %v, %v, %t, %v, %v, %v, %q beside an error", c.what, force, moment, is, x, m, moved, text)
		}
	}
}

// P3.2: the error of the place comes behind that of the forces.
func TestPlaceErrors(t *testing.T) {
	for _, c := range []struct {
		l     []api.Pulled
		place [3]int
		want  api.Errno
	}{
		{couple(), at(1000000, -1000000, 1000000), api.OK},
		{couple(), at(1000001, 0, 0), api.ErrRange},
		{couple(), at(0, -1000001, 0), api.ErrRange},
		{nil, at(0, 0, 1000001), api.ErrRange},
		{nil, at(0, math.MinInt, 0), api.ErrRange},
		{make([]api.Pulled, 301), at(1000001, 0, 0), api.ErrLarge},
	} {
		moment, e := plate.Moment(c.l, c.place)
		wantErr(t, "Moment", e, c.want)
		x, m, e := plate.Balance(c.l, c.place)
		wantErr(t, "Balance", e, c.want)
		if c.want != api.OK && (moment != [3]int{} || x != api.Pulled{} || m != [3]int{}) {
			t.Errorf("%v: %v, %v, %v beside an error", c.place, moment, x, m)
		}
	}
}

// P3.2: the example, and a moment about each axis alone.
func TestMoment(t *testing.T) {
	if s, e := plate.Sum(couple()); s != at(0, 0, 0) || e != api.OK {
		t.Errorf("Sum: %v, error %d", s, e)
	}
	if m, e := plate.Moment(couple(), at(0, 0, 0)); m != at(0, 1000, 0) || e != api.OK {
		t.Errorf("Moment: %v, error %d", m, e)
	}
	for _, c := range []struct{ place, force, about, want [3]int }{
		{at(0, 2, 0), at(0, 0, 3), at(0, 0, 0), at(6, 0, 0)},
		{at(0, 0, 2), at(0, 3, 0), at(0, 0, 0), at(-6, 0, 0)},
		{at(0, 0, 2), at(3, 0, 0), at(0, 0, 0), at(0, 6, 0)},
		{at(2, 0, 0), at(0, 0, 3), at(0, 0, 0), at(0, -6, 0)},
		{at(2, 0, 0), at(0, 3, 0), at(0, 0, 0), at(0, 0, 6)},
		{at(0, 2, 0), at(3, 0, 0), at(0, 0, 0), at(0, 0, -6)},
		{at(2, 0, 0), at(0, 3, 0), at(1, 5, 7), at(21, 0, 3)},
		{at(5, 5, 5), at(1, 2, 3), at(5, 5, 5), at(0, 0, 0)},
	} {
		l := []api.Pulled{{At: c.place, Force: c.force}}
		if m, e := plate.Moment(l, c.about); m != c.want || e != api.OK {
			t.Errorf("%v at %v about %v: %v, error %d, want %v", c.force, c.place, c.about, m, e, c.want)
		}
	}
	if m, e := plate.Moment(nil, at(1, 2, 3)); m != at(0, 0, 0) || e != api.OK {
		t.Errorf("no forces: %v, error %d", m, e)
	}
}

// P3.2: the greatest sums and moments.
func TestGreatestMoment(t *testing.T) {
	l := slices.Repeat([]api.Pulled{{At: at(0, 1000000, -1000000), Force: at(0, 1000000000, 1000000000)}}, 300)
	if s, e := plate.Sum(l); s != at(0, 300000000000, 300000000000) || e != api.OK {
		t.Errorf("Sum: %v, error %d", s, e)
	}
	if m, e := plate.Moment(l, at(0, -1000000, 1000000)); m != at(1200000000000000000, 0, 0) || e != api.OK {
		t.Errorf("Moment: %v, error %d", m, e)
	}
	if f, m, e := plate.Balance(l, at(0, -1000000, 1000000)); f.Force != at(0, -300000000000, -300000000000) || m != at(-1200000000000000000, 0, 0) || e != api.OK {
		t.Errorf("Balance: %v, %v, error %d", f, m, e)
	}
}

// P3.2: a sum or a moment of other than 0 is not balanced.
func TestBalanced(t *testing.T) {
	for _, c := range []struct {
		what string
		l    []api.Pulled
		want bool
	}{
		{"none", nil, true},
		{"the example", couple(), false},
		{"a moment about x", []api.Pulled{{At: at(0, 1, 0), Force: at(0, 0, 1)}, {Force: at(0, 0, -1)}}, false},
		{"a moment about z", []api.Pulled{{At: at(0, 1, 0), Force: at(1, 0, 0)}, {Force: at(-1, 0, 0)}}, false},
		{"a sum without a moment", []api.Pulled{{Force: at(0, 0, 1)}}, false},
		{"forces of 0", []api.Pulled{{At: at(7, 8, 9)}}, true},
		{"along one line", []api.Pulled{{At: at(0, 0, 5), Force: at(0, 0, 7)}, {At: at(0, 0, -9), Force: at(0, 0, -7)}}, true},
		{"two couples", []api.Pulled{
			{At: at(1, 0, 0), Force: at(0, 6, 0)}, {At: at(-1, 0, 0), Force: at(0, -6, 0)},
			{At: at(0, 2, 0), Force: at(3, 0, 0)}, {At: at(0, -2, 0), Force: at(-3, 0, 0)},
		}, true},
	} {
		if is, e := plate.Balanced(c.l); is != c.want || e != api.OK {
			t.Errorf("%s: %t, error %d", c.what, is, e)
		}
	}
}

// P3.2: the balancing force, and the opposite of the moment about its place.
func TestBalance(t *testing.T) {
	x, m, e := plate.Balance(couple()[:1], at(100, 0, 5))
	if x != (api.Pulled{At: at(100, 0, 5), Force: at(0, 0, 10)}) || m != at(0, 0, 0) || e != api.OK {
		t.Errorf("at the place of the force: %v, %v, error %d", x, m, e)
	}
	x, m, e = plate.Balance(couple()[:1], at(0, 0, 0))
	if x != (api.Pulled{Force: at(0, 0, 10)}) || m != at(0, -1000, 0) || e != api.OK {
		t.Errorf("at another place: %v, %v, error %d", x, m, e)
	}
	x, m, e = plate.Balance(couple(), at(7, 8, 9))
	if x != (api.Pulled{At: at(7, 8, 9)}) || m != at(0, -1000, 0) || e != api.OK {
		t.Errorf("a couple: %v, %v, error %d", x, m, e)
	}
}

// P3.2: moved places, and the error of those that result.
func TestMove(t *testing.T) {
	l := []api.Pulled{{At: at(1, 2, 3), Force: at(4, 5, 6)}, {At: at(-1000000, 0, 1000000), Force: at(7, 8, 9)}}
	moved, e := plate.Move(l, at(10, -20, -30))
	want := []api.Pulled{{At: at(11, -18, -27), Force: at(4, 5, 6)}, {At: at(-999990, -20, 999970), Force: at(7, 8, 9)}}
	if e != api.OK || !reflect.DeepEqual(moved, want) {
		t.Errorf("Move: %v, error %d", moved, e)
	}
	for _, c := range []struct {
		by   [3]int
		want api.Errno
	}{
		{at(0, 0, 0), api.OK},
		{at(999999, 999998, 0), api.OK},
		{at(1000000, 0, 0), api.ErrRange},
		{at(0, 999999, 0), api.ErrRange},
		{at(-1, 0, 0), api.ErrRange},
		{at(0, 0, 1), api.ErrRange},
		{at(0, 0, -2000000), api.ErrRange},
		{at(math.MaxInt, 0, 0), api.ErrRange},
		{at(0, math.MinInt, 0), api.ErrRange},
	} {
		moved, e := plate.Move(l, c.by)
		wantErr(t, "Move", e, c.want)
		if e != api.OK && moved != nil {
			t.Errorf("by %v: %v beside an error", c.by, moved)
		}
	}
	if moved, e := plate.Move([]api.Pulled{{At: at(-1000000, 0, 1000000)}}, at(2000000, 0, -2000000)); e != api.OK || moved[0].At != at(1000000, 0, -1000000) {
		t.Errorf("from end to end: %v, error %d", moved, e)
	}
	if moved, e := plate.Move(nil, at(math.MinInt, 0, math.MaxInt)); e != api.OK || len(moved) != 0 {
		t.Errorf("no forces: %v, error %d", moved, e)
	}
}

// P3.2, with big numbers.
func TestForcesAgainstBig(t *testing.T) {
	r := dice()
	for range 300 {
		l := randomForces(r, r.IntN(301), 1000000, 1000000000)
		about := randomVector(r, 1000000)
		s, e := plate.Sum(l)
		m, e2 := plate.Moment(l, about)
		if e != api.OK || e2 != api.OK {
			t.Fatal(e, e2)
		}
		for i := range s {
			j, k := (i+1)%3, (i+2)%3
			force, moment := new(big.Int), new(big.Int)
			for _, f := range l {
				force.Add(force, big.NewInt(int64(f.Force[i])))
				moment.Add(moment, big.NewInt(int64((f.At[j]-about[j])*f.Force[k])))
				moment.Sub(moment, big.NewInt(int64((f.At[k]-about[k])*f.Force[j])))
			}
			if force.Int64() != int64(s[i]) || !moment.IsInt64() || moment.Int64() != int64(m[i]) {
				t.Fatal(i, s, m, force, moment)
			}
		}
	}
}

// P3.8: a move does not change the sum; the moment changes with the place by the vector product; the balancing force balances the sum.
func TestMovesAndMoments(t *testing.T) {
	r := dice()
	for range 500 {
		l := randomForces(r, from(r, 1, 20), 400000, 1000000)
		p := randomVector(r, 400000)
		s, _ := plate.Sum(l)
		moved, e := plate.Move(l, p)
		wantErr(t, "Move", e, api.OK)
		if s2, _ := plate.Sum(moved); s2 != s {
			t.Fatal("the sum of moved forces:", s, s2)
		}
		zero, _ := plate.Moment(l, at(0, 0, 0))
		about, _ := plate.Moment(l, p)
		of, _ := plate.Moment([]api.Pulled{{At: p, Force: s}}, at(0, 0, 0))
		if about != at(zero[0]-of[0], zero[1]-of[1], zero[2]-of[2]) {
			t.Fatal("the moment about", p, zero, about, of)
		}
		if along, _ := plate.Moment(moved, p); along != zero {
			t.Fatal("the moment about the moved origin:", zero, along)
		}
		x, still, e := plate.Balance(l, p)
		wantErr(t, "Balance", e, api.OK)
		if s, e := plate.Sum(append(l, x)); s != at(0, 0, 0) || e != api.OK {
			t.Fatal("with the balancing force:", s, e)
		}
		if m, _ := plate.Moment(append(l, x), randomVector(r, 1000)); m != at(-still[0], -still[1], -still[2]) {
			t.Fatal("the moment that is still needed:", m, still)
		}
	}
}

// P3.8: balanced forces have the moment 0 about each place; the moment that is missing is given by a couple of each axis.
func TestBalancedAboutEachPlace(t *testing.T) {
	r := dice()
	for range 300 {
		l := randomForces(r, from(r, 1, 10), 1000, 1000)
		x, still, _ := plate.Balance(l, randomVector(r, 1000))
		l = append(l, x)
		for i, m := range still {
			var arm, force [3]int
			arm[(i+1)%3], force[(i+2)%3] = 1, m
			l = append(l, api.Pulled{At: arm, Force: force}, api.Pulled{Force: at(-force[0], -force[1], -force[2])})
		}
		if is, e := plate.Balanced(l); !is || e != api.OK {
			t.Fatal(l, is, e)
		}
		if m, _ := plate.Moment(l, randomVector(r, 1000000)); m != at(0, 0, 0) {
			t.Fatal(l, m)
		}
		l[0].Force[r.IntN(3)]++
		if is, _ := plate.Balanced(l); is {
			t.Fatal("one more is balanced:", l)
		}
	}
}
