package scale_test

import (
	"testing"

	"agraffe/api"
	"agraffe/number"
	"agraffe/scale"
)

// P2.4: the errors of limits, behind those of the stringing and the unison.
func TestCheckLimits(t *testing.T) {
	most := api.MaxNumber
	for _, c := range []struct {
		m    api.TensionLimits
		want api.Errno
	}{
		{api.TensionLimits{}, api.OK},
		{wide(), api.OK},
		{api.TensionLimits{Least: 5, Most: 5}, api.OK},
		{api.TensionLimits{Least: most, Most: most, Share: 1000000, Jump: most}, api.OK},
		{api.TensionLimits{Least: -1}, api.ErrRange},
		{api.TensionLimits{Least: most + 1, Most: most}, api.ErrRange},
		{api.TensionLimits{Most: -1}, api.ErrRange},
		{api.TensionLimits{Most: most + 1}, api.ErrRange},
		{api.TensionLimits{Least: 1, Share: -1}, api.ErrRange},
		{api.TensionLimits{Share: 1000001}, api.ErrRange},
		{api.TensionLimits{Least: 1, Jump: -1}, api.ErrRange},
		{api.TensionLimits{Jump: most + 1}, api.ErrRange},
		{api.TensionLimits{Least: 6, Most: 5}, api.ErrOrder},
	} {
		wantErr(t, "CheckLimits", scale.CheckLimits(c.m), c.want)
		if c.want == api.OK {
			continue
		}
		n, e := scale.Keeps(two(), c.m)
		wantErr(t, "Keeps", e, c.want)
		if n != 0 {
			t.Errorf("Keeps: %d beside an error", n)
		}
		woundUp := withUnison(two(), 0, func(u *api.Unison) { u.Strand.Over, u.Strand.Wrap = 1100, "steel" })
		longest, e := scale.LongestFor(two(), 0, c.m)
		wantErr(t, "LongestFor", e, c.want)
		least, e := scale.LeastGauge(woundUp, 0, c.m)
		wantErr(t, "LeastGauge", e, c.want)
		_, e = scale.Allowed(two(), c.m, nil)
		wantErr(t, "Allowed", e, c.want)
		_, _, e = scale.Choose(two(), c.m, nil)
		wantErr(t, "Choose", e, c.want)
		cost, e := scale.CheckChoice(two(), c.m, nil, api.GaugeChoice{})
		wantErr(t, "CheckChoice", e, c.want)
		if longest != 0 || least != 0 || cost != 0 {
			t.Errorf("beside an error: %d, %d, %d", longest, least, cost)
		}
		for _, unison := range []int{-1, 2} {
			_, e = scale.LongestFor(two(), unison, c.m)
			wantErr(t, "LongestFor no unison", e, api.ErrMissing)
			_, e = scale.LeastGauge(two(), unison, c.m)
			wantErr(t, "LeastGauge of no unison", e, api.ErrMissing)
		}
	}
}

// P2.4: each limit is broken by the first number beyond it, and the first unison is told.
func TestKeeps(t *testing.T) {
	// Each has a tension from 76389 to 76390, and a share from 424 to 425.
	for _, c := range []struct {
		what string
		m    api.TensionLimits
		n    int
	}{
		{"the example", exampleLimits(), -1},
		{"just kept", api.TensionLimits{Least: 76389, Most: 76390, Share: 425, Jump: 1}, -1},
		{"Least", api.TensionLimits{Least: 76390, Most: 76390, Share: 425, Jump: 1}, 0},
		{"Most", api.TensionLimits{Least: 76389, Most: 76389, Share: 425, Jump: 1}, 0},
		{"Share", api.TensionLimits{Least: 76389, Most: 76390, Share: 424, Jump: 1}, 0},
		{"Jump", api.TensionLimits{Least: 76389, Most: 76390, Share: 425, Jump: 0}, 1},
		{"Jump and Least", api.TensionLimits{Least: 76390, Most: 76390, Share: 425, Jump: 0}, 0},
	} {
		n, e := scale.Keeps(two(), c.m)
		if want := map[bool]api.Errno{true: api.OK, false: api.ErrBreak}[c.n == -1]; n != c.n || e != want {
			t.Errorf("%s: %d, error %d, want %d", c.what, n, e, c.n)
		}
	}
	if n, e := scale.Keeps(api.Stringing{Fork: 1000}, api.TensionLimits{}); n != -1 || e != api.OK {
		t.Errorf("no unisons: %d, error %d", n, e)
	}
}

// P2.4: a jump counts up and down.
func TestJumps(t *testing.T) {
	for _, thick := range []int{0, 1} {
		s := withUnison(two(), thick, func(u *api.Unison) { u.Strand.Core = 1050 })
		l, _ := scale.Tensions(s)
		m := wide()
		m.Jump = jumpOf(l[0], l[1])
		if n, e := scale.Keeps(s, m); n != -1 || e != api.OK {
			t.Errorf("a jump of %d: %d, error %d", m.Jump, n, e)
		}
		m.Jump--
		if n, e := scale.Keeps(s, m); n != 1 || e != api.ErrBreak {
			t.Errorf("a jump of more than %d: %d, error %d", m.Jump, n, e)
		}
	}
}

// P2.4: no greater length keeps Most and Share, and other limits do not matter.
func TestLongestFor(t *testing.T) {
	r := dice()
	s := piano(40)
	s.Unisons[2].Strand = wound()
	for range 300 {
		unison := r.IntN(40)
		m := api.TensionLimits{Least: 0, Most: from(r, 1, 200000), Share: from(r, 1, 900), Jump: r.IntN(2)}
		m.Least = r.IntN(m.Most + 1)
		u := s.Unisons[unison]
		f, _ := number.Enclose(u.Pitch, s.Fork)
		fits := func(length int) bool {
			u.Strand.Length = length
			x, _ := scale.Tension(s.Wires, u.Strand, f)
			share, _ := scale.Share(s.Wires, u.Strand, f)
			return x.Hi <= m.Most && share.Hi <= m.Share
		}
		length, e := scale.LongestFor(s, unison, m)
		switch {
		case e == api.ErrNone && length == 0 && !fits(1000):
		case e == api.OK && fits(length) && (length == 300000 || !fits(length+1)):
		default:
			t.Fatalf("LongestFor %d %v: %d, error %d", unison, m, length, e)
		}
	}
}

// P2.4: the ends of the lengths.
func TestLongestForEnds(t *testing.T) {
	length, e := scale.LongestFor(two(), 0, wide())
	if length != 300000 || e != api.OK {
		t.Errorf("wide limits: %d, error %d", length, e)
	}
	// With the length 1000 the speed is 447, the tension at most 2466100 * 20 / 10^6; with 1001 the speed is at most 448.
	s := two()
	s.Fork = 447000
	for _, c := range []struct {
		m      api.TensionLimits
		length int
		want   api.Errno
	}{
		{api.TensionLimits{Most: 50, Share: 1}, 1000, api.OK},
		{api.TensionLimits{Most: 49, Share: 1}, 0, api.ErrNone},
		{api.TensionLimits{Most: 50, Share: 0}, 0, api.ErrNone},
	} {
		if length, e := scale.LongestFor(s, 0, c.m); length != c.length || e != c.want {
			t.Errorf("LongestFor %v: %d, error %d", c.m, length, e)
		}
	}
}

// P2.4: no lesser core keeps Least, and other limits do not matter.
func TestLeastGauge(t *testing.T) {
	r := dice()
	s := piano(40)
	for range 300 {
		unison := r.IntN(40)
		m := api.TensionLimits{Least: from(r, 0, 900000), Share: r.IntN(3), Jump: r.IntN(3)}
		m.Most = m.Least
		u := s.Unisons[unison]
		f, _ := number.Enclose(u.Pitch, s.Fork)
		fits := func(core int) bool {
			u.Strand.Core = core
			x, e := scale.Tension(s.Wires, u.Strand, f)
			return e == api.OK && x.Lo >= m.Least
		}
		core, e := scale.LeastGauge(s, unison, m)
		switch {
		case e == api.ErrNone && core == 0 && !fits(3000):
		case e == api.OK && fits(core) && (core == 100 || !fits(core-1)):
		default:
			t.Fatalf("LeastGauge %d %v: %d, error %d", unison, m, core, e)
		}
	}
}

// P2.4: the ends of the cores, wires that bear too little, and wound unisons.
func TestLeastGaugeEnds(t *testing.T) {
	least := func(s api.Stringing, tension int) (int, api.Errno) {
		return scale.LeastGauge(s, 0, api.TensionLimits{Least: tension, Most: tension})
	}
	if core, e := least(two(), 0); core != 100 || e != api.OK {
		t.Errorf("no tension: %d, error %d", core, e)
	}
	s := two()
	s.Wires[0].Strength = 10
	if core, e := least(s, 0); core != 317 || e != api.OK { // 10 * 316^2 is less than 10^6
		t.Errorf("a weak wire: %d, error %d", core, e)
	}
	x, _ := scale.Tension(steel(), api.Strand{Length: 40000, Core: 3000, Wire: "steel"}, span(440000, 440000))
	if core, e := least(two(), x.Lo); core != 3000 || e != api.OK {
		t.Errorf("the greatest core: %d, error %d", core, e)
	}
	if core, e := least(two(), x.Lo+1); core != 0 || e != api.ErrNone {
		t.Errorf("beyond the greatest core: %d, error %d", core, e)
	}
	woundUp := withUnison(two(), 0, func(u *api.Unison) { u.Strand.Over, u.Strand.Wrap = 1100, "steel" })
	if core, e := least(woundUp, x.Lo+1); core != 0 || e != api.ErrKind {
		t.Errorf("a wound unison: %d, error %d", core, e)
	}
	if core, e := scale.LeastGauge(woundUp, 1, wide()); core != 100 || e != api.OK {
		t.Errorf("a plain unison behind a wound one: %d, error %d", core, e)
	}
}
