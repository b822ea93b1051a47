package scale_test

import (
	"slices"
	"testing"

	"agraffe/api"
	"agraffe/number"
	"agraffe/scale"
)

// threeGauges are those of the chapter's examples.
func threeGauges() []int {
	return []int{950, 1000, 1050}
}

// threeLimits allow all three of them for both unisons of the examples, but no change between neighbours.
func threeLimits() api.TensionLimits {
	return api.TensionLimits{Least: 60000, Most: 90000, Share: 500, Jump: 2000}
}

// P2.5: the example.
func TestChoiceExample(t *testing.T) {
	l, e := scale.Allowed(two(), exampleLimits(), threeGauges())
	if e != api.OK || !slices.EqualFunc(l, [][]int{{1}, {1}}, slices.Equal) {
		t.Errorf("Allowed: %v, error %d", l, e)
	}
	c, cost, e := scale.Choose(two(), exampleLimits(), threeGauges())
	if e != api.OK || cost != 0 || !slices.Equal(c.Gauges, []int{1, 1}) {
		t.Errorf("Choose: %v, %d, error %d", c, cost, e)
	}
	cost, e = scale.CheckChoice(two(), exampleLimits(), threeGauges(), c)
	if cost != 0 || e != api.OK {
		t.Errorf("CheckChoice: %d, error %d", cost, e)
	}
}

// P2.5: the error of gauges, behind those of the stringing and of limits.
func TestGaugeErrors(t *testing.T) {
	many := make([]int, 21)
	for i := range many {
		many[i] = 500 + i
	}
	for _, c := range []struct {
		what   string
		gauges []int
		want   api.Errno
	}{
		{"one", []int{1000}, api.OK},
		{"20", many[:20], api.OK},
		{"the least and the greatest", []int{100, 3000}, api.OK},
		{"none", nil, api.ErrLarge},
		{"21", append([]int{99}, many[:20]...), api.ErrLarge},
		{"thin", []int{99}, api.ErrRange},
		{"thick", []int{100, 3001}, api.ErrRange},
		{"thin, and falling", []int{100, 99}, api.ErrRange},
		{"equal", []int{100, 100}, api.ErrOrder},
		{"falling", []int{101, 100, 99}, api.ErrOrder},
	} {
		_, e := scale.Allowed(two(), wide(), c.gauges)
		wantErr(t, "Allowed: "+c.what, e, c.want)
		if c.want == api.OK {
			continue
		}
		_, _, e = scale.Choose(two(), wide(), c.gauges)
		wantErr(t, "Choose: "+c.what, e, c.want)
		_, e = scale.CheckChoice(two(), wide(), c.gauges, api.GaugeChoice{})
		wantErr(t, "CheckChoice: "+c.what, e, c.want)
		_, e = scale.With(two(), c.gauges, nil)
		wantErr(t, "With: "+c.what, e, c.want)
	}
}

// P2.5: a gauge is allowed only with a right strand that keeps the limits, the jump apart.
func TestAllowed(t *testing.T) {
	allowed := func(what string, s api.Stringing, m api.TensionLimits, gauges []int, want ...[]int) {
		t.Helper()
		if l, e := scale.Allowed(s, m, gauges); e != api.OK || !slices.EqualFunc(l, want, slices.Equal) {
			t.Errorf("%s: %v, error %d, want %v", what, l, e, want)
		}
	}
	noJump := wide()
	noJump.Jump = 0
	allowed("all", two(), noJump, threeGauges(), []int{0, 1, 2}, []int{0, 1, 2})
	allowed("Least", two(), api.TensionLimits{Least: 76389, Most: 90000, Share: 500}, threeGauges(), []int{1, 2}, []int{1, 2})
	allowed("more than Least", two(), api.TensionLimits{Least: 76390, Most: 90000, Share: 500}, threeGauges(), []int{2}, []int{2})
	allowed("Most", two(), api.TensionLimits{Most: 76390, Share: 500}, threeGauges(), []int{0, 1}, []int{0, 1})
	allowed("less than Most", two(), api.TensionLimits{Most: 76389, Share: 500}, threeGauges(), []int{0}, []int{0})
	allowed("Share", two(), api.TensionLimits{Most: 90000, Share: 424}, threeGauges(), nil, nil)
	woundUp := withUnison(two(), 1, func(u *api.Unison) { u.Strand.Over, u.Strand.Wrap = 1050, "steel" })
	allowed("a gauge as thick as the wrap", woundUp, wide(), threeGauges(), []int{0, 1, 2}, []int{0, 1})
	weak := two()
	weak.Wires[0].Strength, weak.Fork = 1, 44000
	allowed("gauges that bear too little", weak, wide(), []int{999, 1000, 1001}, []int{1, 2}, []int{1, 2})
	allowed("no unisons", api.Stringing{Fork: 1000}, wide(), threeGauges())
}

// P2.5: the errors of CheckChoice, each ahead of those behind it.
func TestCheckChoice(t *testing.T) {
	zeros := func(rows ...[]int) [][]int { return rows }
	z := []int{0, 0, 0}
	for _, c := range []struct {
		what       string
		gauges     []int
		potentials [][]int
		want       api.Errno
	}{
		{"a proof", []int{2, 2}, zeros(z, z), api.OK},
		{"a gauge too few", []int{9}, zeros(z, z), api.ErrShape},
		{"a gauge too many", []int{2, 2, 2}, zeros(z, z), api.ErrShape},
		{"potentials too few", []int{9, 2}, zeros(z), api.ErrShape},
		{"potentials too many", []int{2, 2}, zeros(z, z, z), api.ErrShape},
		{"a short list of potentials", []int{9, 2}, zeros(z, z[:2]), api.ErrShape},
		{"a long list of potentials", []int{2, 2}, zeros([]int{0, 0, 0, 0}, z), api.ErrShape},
		{"no such gauge", []int{1, 3}, zeros(z, z), api.ErrMissing},
		{"a gauge below 0", []int{-1, 3}, zeros(z, z), api.ErrMissing},
		{"a clash", []int{1, 2}, zeros([]int{1000001, 0, 0}, z), api.ErrClash},
		{"a great potential", []int{2, 2}, zeros([]int{1000001, 0, 0}, z), api.ErrRange},
		{"a little potential", []int{2, 2}, zeros(z, []int{-1000001, 0, 0}), api.ErrRange},
		{"a first potential above 0", []int{2, 2}, zeros([]int{0, 0, 1}, z), api.ErrProof},
		{"a bound below the cost", []int{2, 2}, zeros(z, []int{-1, 0, 0}), api.ErrProof},
		{"a potential that is too much more", []int{2, 2}, zeros([]int{-1, 0, 0}, z), api.ErrProof},
		{"little first potentials", []int{2, 2}, zeros([]int{-1, -1, -1}, []int{-1, -1, -1}), api.ErrProof},
		{"more behind a gauge that goes with another one", []int{2, 2}, zeros(z, []int{0, 0, 1}), api.ErrProof},
	} {
		cost, e := scale.CheckChoice(two(), threeLimits(), threeGauges(), api.GaugeChoice{Gauges: c.gauges, Potentials: c.potentials})
		wantErr(t, c.what, e, c.want)
		if cost != 0 {
			t.Errorf("%s: cost %d", c.what, cost)
		}
	}
}

// P2.5: of potentials of gauges that are not allowed only the range matters; a gauge that is not allowed is told ahead of a clash.
func TestCheckChoiceNotAllowed(t *testing.T) {
	check := func(gauges []int, potentials ...[]int) api.Errno {
		_, e := scale.CheckChoice(two(), exampleLimits(), threeGauges(), api.GaugeChoice{Gauges: gauges, Potentials: potentials})
		return e
	}
	wantErr(t, "great potentials", check([]int{1, 1}, []int{1000000, 0, 1000000}, []int{-1000000, 0, -1000000}), api.OK)
	wantErr(t, "a potential out of range", check([]int{1, 1}, []int{1000001, 0, 0}, []int{0, 0, 0}), api.ErrRange)
	wantErr(t, "not allowed at first", check([]int{0, 3}, []int{0, 0, 0}, []int{0, 0, 0}), api.ErrBreak)
	wantErr(t, "not allowed then", check([]int{1, 2}, []int{0, 0, 0}, []int{0, 0, 0}), api.ErrBreak)
	none := api.Stringing{Fork: 1000}
	cost, e := scale.CheckChoice(none, wide(), threeGauges(), api.GaugeChoice{})
	if cost != 0 || e != api.OK {
		t.Errorf("no unisons: %d, error %d", cost, e)
	}
	c, cost, e := scale.Choose(none, wide(), threeGauges())
	if len(c.Gauges) != 0 || len(c.Potentials) != 0 || cost != 0 || e != api.OK {
		t.Errorf("Choose for no unisons: %v, %d, error %d", c, cost, e)
	}
}

// P2.5: a choice that has to change its gauge costs the difference of the numbers.
func TestCosts(t *testing.T) {
	// The second string is shorter, so that only thicker gauges have as much tension.
	s := withUnison(two(), 1, func(u *api.Unison) { u.Strand.Length = 18000 })
	gauges := []int{940, 960, 1000, 1010, 1115}
	m := api.TensionLimits{Least: 70000, Most: 80000, Share: 600, Jump: 900}
	c, cost, e := scale.Choose(s, m, gauges)
	if e != api.OK || cost != 2 || !slices.Equal(c.Gauges, []int{2, 4}) {
		t.Fatalf("Choose: %v, %d, error %d", c, cost, e)
	}
	if cost, e := scale.CheckChoice(s, m, gauges, c); cost != 2 || e != api.OK {
		t.Errorf("CheckChoice: %d, error %d", cost, e)
	}
	c.Potentials[1][4]++
	if cost, e := scale.CheckChoice(s, m, gauges, c); cost != 0 || e != api.ErrProof {
		t.Errorf("CheckChoice of a potential that is too great: %d, error %d", cost, e)
	}
	c.Potentials[1][4] -= 2
	if cost, e := scale.CheckChoice(s, m, gauges, c); cost != 0 || e != api.ErrProof {
		t.Errorf("CheckChoice of a potential that is too little: %d, error %d", cost, e)
	}
}

// P2.5: Choose names the first unison at which nothing is left, also if each gauge is allowed but none goes together.
func TestChooseNone(t *testing.T) {
	refused := func(what string, s api.Stringing, m api.TensionLimits, want int) {
		t.Helper()
		c, n, e := scale.Choose(s, m, threeGauges())
		if c.Gauges != nil || c.Potentials != nil || n != want || e != api.ErrNone {
			t.Errorf("%s: %v, %d, error %d, want %d", what, c, n, e, want)
		}
	}
	m := threeLimits()
	refused("none at first", two(), api.TensionLimits{Least: 85000, Most: 90000, Share: 500}, 0)
	refused("none then", withUnison(two(), 1, func(u *api.Unison) { u.Strand.Length = 30000 }), m, 1)
	s := withUnison(two(), 1, func(u *api.Unison) { u.Strand.Length = 20500 })
	m.Most = 100000
	if l, _ := scale.Allowed(s, m, threeGauges()); !slices.EqualFunc(l, [][]int{{0, 1, 2}, {0, 1, 2}}, slices.Equal) {
		t.Fatalf("Allowed: %v", l)
	}
	m.Jump = 100
	refused("none goes together", s, m, 1)
}

// P2.5: gauges go together if the jump with them is just as much as it may be.
func TestTogetherAtTheLimit(t *testing.T) {
	s := withUnison(two(), 1, func(u *api.Unison) { u.Strand.Length = 20500 })
	l, _ := scale.Tensions(s)
	m := api.TensionLimits{Most: 90000, Share: 1000, Jump: jumpOf(l[0], l[1])}
	c, cost, e := scale.Choose(s, m, []int{1000})
	if e != api.OK || cost != 0 {
		t.Fatalf("Choose: %v, %d, error %d", c, cost, e)
	}
	_, e = scale.CheckChoice(s, m, []int{1000}, c)
	wantErr(t, "CheckChoice at the limit", e, api.OK)
	m.Jump--
	_, e = scale.CheckChoice(s, m, []int{1000}, c)
	wantErr(t, "CheckChoice beyond the limit", e, api.ErrClash)
	_, n, e := scale.Choose(s, m, []int{1000})
	if n != 1 || e != api.ErrNone {
		t.Errorf("Choose beyond the limit: %d, error %d", n, e)
	}
}

// P2.5: a single unison, which is the first and the last one.
func TestChooseOne(t *testing.T) {
	s := two()
	s.Unisons = s.Unisons[:1]
	c, cost, e := scale.Choose(s, exampleLimits(), threeGauges())
	if e != api.OK || cost != 0 || !slices.Equal(c.Gauges, []int{1}) || len(c.Potentials) != 1 {
		t.Fatalf("Choose: %v, %d, error %d", c, cost, e)
	}
	for potential, want := range map[int]api.Errno{0: api.OK, 1: api.ErrProof, -1: api.ErrProof} {
		c.Potentials[0][1] = potential
		_, e := scale.CheckChoice(s, exampleLimits(), threeGauges(), c)
		wantErr(t, "CheckChoice", e, want)
	}
}

// P2.5 and P2.9: small stringings, against all choices there are.
func TestChooseAll(t *testing.T) {
	r := dice()
	refusals := 0
	for range 400 {
		s := piano(5)
		for i := range s.Unisons {
			s.Unisons[i].Strand.Length += from(r, -2500, 2500)
		}
		gauges := []int{930, 960, 990, 1020, 1050}[:from(r, 1, 5)]
		m := api.TensionLimits{Least: from(r, 60000, 72000), Most: from(r, 73000, 85000), Share: 600, Jump: from(r, 1000, 9000)}
		best, reached := cheapestOfAll(t, s, m, gauges)
		c, cost, e := scale.Choose(s, m, gauges)
		if best < 0 {
			refusals++
			if e != api.ErrNone || cost != reached {
				t.Fatalf("Choose: %v, %d, error %d, though nothing is left at %d", c, cost, e, reached)
			}
			continue
		}
		if e != api.OK || cost != best {
			t.Fatalf("Choose: %v, %d, error %d, want %d", c, cost, e, best)
		}
		if n, e := scale.CheckChoice(s, m, gauges, c); n != best || e != api.OK {
			t.Fatalf("CheckChoice: %d, error %d, want %d", n, e, best)
		}
		chosen, e := scale.With(s, gauges, c.Gauges)
		wantErr(t, "With", e, api.OK)
		if n, e := scale.Keeps(chosen, m); n != -1 || e != api.OK {
			t.Fatalf("Keeps: %d, error %d", n, e)
		}
	}
	if refusals < 40 || refusals > 360 {
		t.Errorf("%d refusals of 400", refusals)
	}
}

// cheapestOfAll goes through all lists of gauges: the least cost, or -1 and the first unison that none reaches.
func cheapestOfAll(t *testing.T, s api.Stringing, m api.TensionLimits, gauges []int) (int, int) {
	t.Helper()
	best, reached := -1, 0
	var goOn func(chosen []int, last api.Range, cost int)
	goOn = func(chosen []int, last api.Range, cost int) {
		reached = max(reached, len(chosen))
		if len(chosen) == len(s.Unisons) {
			if best < 0 || cost < best {
				best = cost
			}
			return
		}
		u := s.Unisons[len(chosen)]
		f, _ := number.Enclose(u.Pitch, s.Fork)
		for g, core := range gauges {
			u.Strand.Core = core
			x := tension(t, s.Wires, u.Strand, f)
			share, _ := scale.Share(s.Wires, u.Strand, f)
			if x.Lo < m.Least || x.Hi > m.Most || share.Hi > m.Share {
				continue
			}
			more := 0
			if n := len(chosen); n > 0 {
				if jumpOf(last, x) > m.Jump {
					continue
				}
				more = max(g-chosen[n-1], chosen[n-1]-g)
			}
			goOn(append(slices.Clone(chosen), g), x, cost+more)
		}
	}
	goOn(nil, api.Range{}, 0)
	return best, reached
}

// P2.9: a wider list of gauges never refuses what a narrower one does not, nor costs its proof anything.
func TestWiderGauges(t *testing.T) {
	r := dice()
	for range 30 {
		s := piano(60)
		for i := range s.Unisons {
			s.Unisons[i].Strand.Length += from(r, -300, 300) * s.Unisons[i].Strand.Length / 10000
		}
		var narrow, wider []int
		for core := 900; len(wider) < 20; core += 10 {
			wider = append(wider, core)
			if r.IntN(3) > 0 {
				narrow = append(narrow, core)
			}
		}
		m := api.TensionLimits{Least: 60000, Most: 90000, Share: 600, Jump: from(r, 800, 4000)}
		_, _, e := scale.Choose(s, m, narrow)
		c, cost, wide := scale.Choose(s, m, wider)
		if e == api.OK && wide != api.OK {
			t.Fatalf("%v is refused, but %v is not", wider, narrow)
		}
		if wide == api.OK {
			if n, e := scale.CheckChoice(s, m, wider, c); n != cost || e != api.OK {
				t.Fatalf("CheckChoice: %d, error %d, want %d", n, e, cost)
			}
		}
	}
}

// P2.5: the errors of With, and its result.
func TestWith(t *testing.T) {
	s, e := scale.With(two(), threeGauges(), []int{0, 2})
	wantErr(t, "With", e, api.OK)
	if s.Fork != 440000 || !slices.Equal(s.Wires, two().Wires) || s.Unisons[0].Strand.Core != 950 || s.Unisons[1].Strand.Core != 1050 {
		t.Errorf("With: %v", s)
	}
	s.Unisons[0].Strand.Core, s.Unisons[1].Strand.Core = 1000, 1000
	if !slices.Equal(s.Unisons, two().Unisons) {
		t.Errorf("With changes more than gauges: %v", s)
	}
	woundUp := withUnison(two(), 1, func(u *api.Unison) { u.Strand.Over, u.Strand.Wrap = 1050, "steel" })
	weak := two()
	weak.Wires[0].Strength = 1
	for _, c := range []struct {
		what   string
		s      api.Stringing
		choice []int
		want   api.Errno
	}{
		{"too few", two(), []int{9}, api.ErrShape},
		{"too many", two(), []int{1, 1, 1}, api.ErrShape},
		{"none", two(), nil, api.ErrShape},
		{"no such gauge", woundUp, []int{2, 3}, api.ErrMissing},
		{"a gauge below 0", woundUp, []int{-1, 2}, api.ErrMissing},
		{"as thick as the wrap", woundUp, []int{1, 2}, api.ErrForm},
		{"too weak", weak, []int{0, 1}, api.ErrZero},
	} {
		s, e := scale.With(c.s, threeGauges(), c.choice)
		wantErr(t, "With: "+c.what, e, c.want)
		if s.Fork != 0 || s.Wires != nil || s.Unisons != nil {
			t.Errorf("With: %s: %v beside an error", c.what, s)
		}
	}
	if s, e := scale.With(api.Stringing{Fork: 1000}, threeGauges(), nil); s.Fork != 1000 || e != api.OK {
		t.Errorf("With no unisons: %v, error %d", s, e)
	}
}
