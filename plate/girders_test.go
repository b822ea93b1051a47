package plate_test

import (
	"math"
	"math/big"
	"math/rand/v2"
	"slices"
	"testing"

	"agraffe/api"
	"agraffe/plate"
)

func girder(a, b, most int) api.Girder {
	return api.Girder{A: a, B: b, Most: most}
}

// exampleLoads lie on a girder from 0 to 100.
func exampleLoads() [][2]int {
	return [][2]int{{20, 10}, {60, 30}}
}

// wantGirderErrors calls all functions with a girder and loads.
func wantGirderErrors(t *testing.T, what string, g api.Girder, l [][2]int, x int, want api.Errno) {
	t.Helper()
	reactions, e := plate.Reactions(g, l)
	wantErr(t, "Reactions: "+what, e, want)
	shear, e := plate.Shear(g, l, x)
	wantErr(t, "Shear: "+what, e, want)
	bending, e := plate.Bending(g, l, x)
	wantErr(t, "Bending: "+what, e, want)
	place, worst, e := plate.Worst(g, l)
	wantErr(t, "Worst: "+what, e, want)
	wantErr(t, "Holds: "+what, plate.Holds(g, l), want)
	if want != api.OK && (reactions != [2]api.Frac{} || shear != api.Frac{} || bending != api.Frac{} || place != 0 || worst != api.Frac{}) {
		t.Errorf("%s: %v, %v, %v, %d, %v beside an error", what, reactions, shear, bending, place, worst)
	}
}

// P3.4: the error of a girder, ahead of those of the loads and of the place.
func TestGirderErrors(t *testing.T) {
	for _, c := range []struct {
		what string
		g    api.Girder
		want api.Errno
	}{
		{"the longest one", girder(-20000, 20000, 1000000000000), api.OK},
		{"the shortest one", girder(7, 8, 0), api.OK},
		{"A too far", girder(-20001, 0, 0), api.ErrRange},
		{"A too far ahead", girder(20001, 20000, 0), api.ErrRange},
		{"B too far", girder(0, 20001, 0), api.ErrRange},
		{"B too far behind", girder(0, -20001, 0), api.ErrRange},
		{"Most below 0", girder(0, 1, -1), api.ErrRange},
		{"Most too great", girder(0, 1, 1000000000001), api.ErrRange},
		{"turned", girder(1, 0, 0), api.ErrOrder},
		{"without length", girder(5, 5, 0), api.ErrOrder},
		{"turned, with a wrong Most", girder(1, 0, -1), api.ErrRange},
		{"the extremes", girder(math.MinInt, math.MaxInt, math.MaxInt), api.ErrRange},
	} {
		wantErr(t, "CheckGirder: "+c.what, plate.CheckGirder(c.g), c.want)
		if c.want != api.OK {
			wantGirderErrors(t, c.what, c.g, make([][2]int, 101), math.MinInt, c.want)
		}
	}
}

// P3.4: the error of the loads, ahead of that of the place.
func TestLoadErrorsOnGirders(t *testing.T) {
	strong := girder(10, 20, 1000000000000)
	for _, c := range wrongLoads {
		wantGirderErrors(t, c.what, strong, c.l, 15, c.want)
		for _, x := range []int{9, 21, math.MinInt, math.MaxInt} {
			want := c.want
			if want == api.OK {
				want = api.ErrRange
			}
			shear, e := plate.Shear(strong, c.l, x)
			wantErr(t, "Shear: "+c.what, e, want)
			bending, e := plate.Bending(strong, c.l, x)
			wantErr(t, "Bending: "+c.what, e, want)
			if shear != (api.Frac{}) || bending != (api.Frac{}) {
				t.Errorf("%s at %d: %v, %v beside an error", c.what, x, shear, bending)
			}
		}
	}
}

// P3.4: the example, with shear force and bending at and between loads.
func TestGirder(t *testing.T) {
	g := girder(0, 100, 800)
	if r, e := plate.Reactions(g, exampleLoads()); r != [2]api.Frac{frac(20, 1), frac(20, 1)} || e != api.OK {
		t.Errorf("Reactions: %v, error %d", r, e)
	}
	for _, c := range []struct{ x, shear, bending int }{
		{0, 20, 0}, {19, 20, 380}, {20, 10, 400}, {40, 10, 600}, {59, 10, 790}, {60, -20, 800}, {100, -20, 0},
	} {
		shear, e := plate.Shear(g, exampleLoads(), c.x)
		bending, e2 := plate.Bending(g, exampleLoads(), c.x)
		if shear != frac(c.shear, 1) || bending != frac(c.bending, 1) || e != api.OK || e2 != api.OK {
			t.Errorf("at %d: %v, %v, errors %d, %d", c.x, shear, bending, e, e2)
		}
	}
	if r, e := plate.Reactions(girder(-3, 3, 0), [][2]int{{-1, 10}, {3, -7}}); r != [2]api.Frac{frac(20, 3), frac(-11, 3)} || e != api.OK {
		t.Errorf("Reactions in thirds: %v, error %d", r, e)
	}
}

// P3.4: loads on a support count for its reaction and for the shear force, and bend nothing.
func TestLoadsOnSupports(t *testing.T) {
	g, l := girder(-10, 10, 0), [][2]int{{10, 5}, {-10, 7}}
	if r, e := plate.Reactions(g, l); r != [2]api.Frac{frac(7, 1), frac(5, 1)} || e != api.OK {
		t.Errorf("Reactions: %v, error %d", r, e)
	}
	for _, c := range [][2]int{{-10, 0}, {0, 0}, {9, 0}, {10, -5}} {
		shear, _ := plate.Shear(g, l, c[0])
		bending, e := plate.Bending(g, l, c[0])
		if shear != frac(c[1], 1) || bending != frac(0, 1) || e != api.OK {
			t.Errorf("at %d: %v, %v, error %d", c[0], shear, bending, e)
		}
	}
	wantErr(t, "Holds", plate.Holds(g, l), api.OK)
}

// P3.4: the first place by places, whatever the sign and the order of the loads.
func TestWorst(t *testing.T) {
	for _, c := range []struct {
		what    string
		g       api.Girder
		l       [][2]int
		place   int
		bending api.Frac
	}{
		{"the example", girder(0, 100, 0), exampleLoads(), 60, frac(800, 1)},
		{"turned loads", girder(0, 100, 0), [][2]int{{60, 30}, {20, 10}}, 60, frac(800, 1)},
		{"no loads", girder(-5, 100, 0), nil, -5, frac(0, 1)},
		{"a load on B alone", girder(0, 100, 0), [][2]int{{100, 5}}, 100, frac(0, 1)},
		{"loads on both supports", girder(0, 100, 0), [][2]int{{100, 5}, {0, 7}}, 0, frac(0, 1)},
		{"a load of 0", girder(0, 100, 0), [][2]int{{70, 0}, {50, 0}}, 50, frac(0, 1)},
		{"upward", girder(0, 100, 0), [][2]int{{20, -10}, {60, -30}}, 60, frac(-800, 1)},
		{"equal bendings", girder(0, 90, 0), [][2]int{{60, 3}, {30, 3}}, 30, frac(90, 1)},
		{"equal sizes, downward first", girder(0, 90, 0), [][2]int{{60, -3}, {30, 3}}, 30, frac(30, 1)},
		{"equal sizes, upward first", girder(0, 90, 0), [][2]int{{60, 3}, {30, -3}}, 30, frac(-30, 1)},
		{"a size that is greater upward", girder(0, 90, 0), [][2]int{{30, 3}, {60, -4}}, 60, frac(-50, 1)},
		{"two loads at one place", girder(0, 90, 0), [][2]int{{30, 1}, {60, 2}, {30, 3}}, 30, frac(100, 1)},
		{"thirds", girder(0, 3, 0), [][2]int{{1, 1}}, 1, frac(2, 3)},
		{"a third more", girder(0, 3, 0), [][2]int{{1, 1}, {2, 2}}, 2, frac(5, 3)},
		{"next to the end", girder(0, 20000, 0), [][2]int{{1, 1}, {19998, 1}, {19999, 1}}, 19998, frac(14999, 5000)},
	} {
		place, bending, e := plate.Worst(c.g, c.l)
		if place != c.place || bending != c.bending || e != api.OK {
			t.Errorf("%s: %d, %v, error %d, want %d, %v", c.what, place, bending, e, c.place, c.bending)
		}
	}
}

// P3.4: the greatest bending in size is borne, and nothing more; fractions count.
func TestHolds(t *testing.T) {
	thirds := [][2]int{{1, 1}}
	for _, c := range []struct {
		what string
		g    api.Girder
		l    [][2]int
		want api.Errno
	}{
		{"the example", girder(0, 100, 800), exampleLoads(), api.OK},
		{"one less", girder(0, 100, 799), exampleLoads(), api.ErrBreak},
		{"upward", girder(0, 100, 800), [][2]int{{20, -10}, {60, -30}}, api.OK},
		{"one less upward", girder(0, 100, 799), [][2]int{{20, -10}, {60, -30}}, api.ErrBreak},
		{"2/3 on 1", girder(0, 3, 1), thirds, api.OK},
		{"2/3 on 0", girder(0, 3, 0), thirds, api.ErrBreak},
		{"4/3 on 1", girder(0, 3, 1), [][2]int{{1, 2}}, api.ErrBreak},
		{"no loads", girder(0, 3, 0), nil, api.OK},
		{"the greatest bending", girder(-20000, 20000, 1000000000000), slices.Repeat([][2]int{{0, 1000000}}, 100), api.OK},
		{"just less than it", girder(-20000, 20000, 999999999999), slices.Repeat([][2]int{{0, 1000000}}, 100), api.ErrBreak},
	} {
		wantErr(t, c.what, plate.Holds(c.g, c.l), c.want)
	}
}

// bendingOf is the chapter's bending, with big numbers; shearOf its shear force.
func bendingOf(g api.Girder, l [][2]int, x int) *big.Rat {
	total := product(reactionOf(g, l), whole(x-g.A))
	for _, load := range l {
		if load[0] <= x {
			total = difference(total, whole(load[1]*(x-load[0])))
		}
	}
	return total
}

func shearOf(g api.Girder, l [][2]int, x int) *big.Rat {
	total := reactionOf(g, l)
	for _, load := range l {
		if load[0] <= x {
			total = difference(total, whole(load[1]))
		}
	}
	return total
}

// reactionOf is that at A.
func reactionOf(g api.Girder, l [][2]int) *big.Rat {
	total := whole(0)
	for _, load := range l {
		total = sum(total, quotient(whole(load[1]*(g.B-load[0])), whole(g.B-g.A)))
	}
	return total
}

func randomGirder(r *rand.Rand) (api.Girder, [][2]int) {
	ends := randomBars(r, 2, []int{10, 500, 20000}[r.IntN(3)])
	g := girder(ends[0], ends[1], from(r, 0, 1000000))
	return g, randomLoads(r, r.IntN(31), g.A, g.B, []int{3, 1000000}[r.IntN(2)])
}

// P3.4 and P3.9: all numbers of a girder, with big numbers; nothing bends at the supports; the reactions are those of two bars.
func TestGirdersAgainstBig(t *testing.T) {
	r := dice()
	for range 500 {
		g, l := randomGirder(r)
		reactions, e := plate.Reactions(g, l)
		bars, e2 := plate.Distribute([]int{g.A, g.B}, l)
		if e != api.OK || e2 != api.OK || !slices.Equal(reactions[:], bars) || !isExactly(reactions[0], reactionOf(g, l)) {
			t.Fatal(g, l, reactions, bars, e, e2)
		}
		for _, x := range []int{g.A, g.B, from(r, g.A, g.B), from(r, g.A, g.B)} {
			shear, e := plate.Shear(g, l, x)
			bending, e2 := plate.Bending(g, l, x)
			if e != api.OK || e2 != api.OK || !isExactly(shear, shearOf(g, l, x)) || !isExactly(bending, bendingOf(g, l, x)) {
				t.Fatal(g, l, x, shear, bending, e, e2)
			}
			if (x == g.A || x == g.B) && bending != frac(0, 1) {
				t.Fatal(g, l, x, bending)
			}
		}
		wantWorst(t, g, l)
	}
}

// wantWorst looks at all places of loads; and at each place of a short girder for one that bends more.
func wantWorst(t *testing.T, g api.Girder, l [][2]int) {
	t.Helper()
	size := func(x int) *big.Rat { return new(big.Rat).Abs(bendingOf(g, l, x)) }
	want := g.A
	if len(l) > 0 {
		want = g.B
	}
	for _, load := range l {
		if n := size(load[0]).Cmp(size(want)); n > 0 || n == 0 && load[0] < want {
			want = load[0]
		}
	}
	place, bending, e := plate.Worst(g, l)
	if e != api.OK || place != want || !isExactly(bending, bendingOf(g, l, want)) {
		t.Fatal(g, l, place, bending, e, want)
	}
	held := plate.Holds(g, l)
	if (held == api.OK) != (size(want).Cmp(whole(g.Most)) <= 0) || held != api.OK && held != api.ErrBreak {
		t.Fatal(g, l, bending, held)
	}
	for x := g.A; x <= g.B && g.B-g.A <= 20; x++ {
		if size(x).Cmp(size(place)) > 0 {
			t.Fatal(g, l, place, "bends less than", x)
		}
	}
}

// P3.9: no number depends on the order of loads; between places of loads the bending changes by the shear force times the way.
func TestBendingAndShear(t *testing.T) {
	r := dice()
	for range 500 {
		g, l := randomGirder(r)
		turned := slices.Clone(l)
		r.Shuffle(len(turned), func(i, j int) { turned[i], turned[j] = turned[j], turned[i] })
		places := []int{g.A, g.B}
		for _, load := range l {
			places = append(places, load[0])
		}
		slices.Sort(places)
		i := from(r, 1, len(places)-1)
		x := from(r, places[i-1], places[i])
		shear, _ := plate.Shear(g, l, places[i-1])
		before, _ := plate.Bending(g, l, places[i-1])
		behind, _ := plate.Bending(g, l, x)
		if change := difference(ratOf(behind), ratOf(before)); change.Cmp(product(ratOf(shear), whole(x-places[i-1]))) != 0 {
			t.Fatal(g, l, places[i-1], x, before, behind, shear)
		}
		again, _ := plate.Bending(g, turned, x)
		place, worst, _ := plate.Worst(g, l)
		place2, worst2, _ := plate.Worst(g, turned)
		if again != behind || place != place2 || worst != worst2 {
			t.Fatal(g, l, turned)
		}
	}
}
