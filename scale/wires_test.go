package scale_test

import (
	"testing"

	"agraffe/api"
	"agraffe/scale"
)

// P2.1: the errors of wires, each ahead of those behind it, wire by wire.
func TestCheckWires(t *testing.T) {
	many := make([]api.Wire, 21)
	names := "abcdefghijklmnopqrstu"
	for i := range many {
		many[i] = api.Wire{Name: names[i : i+1], Mass: 1, Strength: 1}
	}
	for _, c := range []struct {
		what string
		l    []api.Wire
		want api.Errno
	}{
		{"none", nil, api.OK},
		{"two", steel(), api.OK},
		{"20", many[:20], api.OK},
		{"21", many, api.ErrLarge},
		{"the least", []api.Wire{{Name: "a", Mass: 1, Strength: 1}}, api.OK},
		{"the greatest", []api.Wire{{Name: "abcdefghijkl", Mass: 200000, Strength: 1000000, Stiff: 100000000}}, api.OK},
		{"no name", []api.Wire{{Name: "", Mass: 1, Strength: 1}}, api.ErrName},
		{"a long name", []api.Wire{{Name: "abcdefghijklm", Mass: 1, Strength: 1}}, api.ErrName},
		{"no name, and Mass", []api.Wire{{Name: "1"}}, api.ErrName},
		{"twice", []api.Wire{steel()[0], steel()[1], steel()[0]}, api.ErrExists},
		{"twice, and Mass", []api.Wire{steel()[0], {Name: "steel"}}, api.ErrExists},
		{"no Mass", []api.Wire{{Name: "a", Mass: 0, Strength: 1}}, api.ErrRange},
		{"much Mass", []api.Wire{{Name: "a", Mass: 200001, Strength: 1}}, api.ErrRange},
		{"no Strength", []api.Wire{{Name: "a", Mass: 1, Strength: 0}}, api.ErrRange},
		{"much Strength", []api.Wire{{Name: "a", Mass: 1, Strength: 1000001}}, api.ErrRange},
		{"less than no Stiff", []api.Wire{{Name: "a", Mass: 1, Strength: 1, Stiff: -1}}, api.ErrRange},
		{"much Stiff", []api.Wire{{Name: "a", Mass: 1, Strength: 1, Stiff: 100000001}}, api.ErrRange},
		{"the first wire first", []api.Wire{{Name: "a"}, {Name: ""}}, api.ErrRange},
	} {
		wantErr(t, "CheckWires: "+c.what, scale.CheckWires(c.l), c.want)
	}
}

// P2.1: the errors of strands, each ahead of those behind it.
func TestCheckStrand(t *testing.T) {
	weak := append(steel(), api.Wire{Name: "weak", Mass: 1, Strength: 100}, api.Wire{Name: "weaker", Mass: 1, Strength: 99})
	for _, c := range []struct {
		what string
		l    []api.Wire
		s    api.Strand
		want api.Errno
	}{
		{"plain", steel(), plain(), api.OK},
		{"wound", steel(), wound(), api.OK},
		{"the least", steel(), api.Strand{Length: 1000, Core: 100, Wire: "steel"}, api.OK},
		{"the greatest", steel(), api.Strand{Length: 300000, Core: 3000, Over: 10000, Wire: "steel", Wrap: "steel"}, api.OK},
		{"the least wrap", steel(), api.Strand{Length: 1000, Core: 100, Over: 101, Wire: "steel", Wrap: "steel"}, api.OK},
		{"wires", []api.Wire{{}}, api.Strand{}, api.ErrName},
		{"short", steel(), api.Strand{Length: 999, Core: 1000, Over: 1, Wire: "iron"}, api.ErrRange},
		{"long", steel(), api.Strand{Length: 300001, Core: 1000, Wire: "steel"}, api.ErrRange},
		{"thin", steel(), api.Strand{Length: 1000, Core: 99, Wire: "steel"}, api.ErrRange},
		{"thick", steel(), api.Strand{Length: 1000, Core: 3001, Wire: "steel"}, api.ErrRange},
		{"less than no wrap", steel(), api.Strand{Length: 1000, Core: 1000, Over: -1, Wire: "steel"}, api.ErrRange},
		{"a thick wrap", steel(), api.Strand{Length: 1000, Core: 1000, Over: 10001, Wire: "steel", Wrap: "steel"}, api.ErrRange},
		{"a wrap as thick as the core", steel(), api.Strand{Length: 1000, Core: 1000, Over: 1000, Wire: "iron", Wrap: "steel"}, api.ErrForm},
		{"no name of the wrap", steel(), api.Strand{Length: 1000, Core: 1000, Over: 1001, Wire: "iron"}, api.ErrForm},
		{"no wrap, but its name", steel(), api.Strand{Length: 1000, Core: 1000, Wire: "iron", Wrap: "steel"}, api.ErrForm},
		{"no such wire", steel(), api.Strand{Length: 1000, Core: 1000, Wire: "iron"}, api.ErrMissing},
		{"no wire", steel(), api.Strand{Length: 1000, Core: 1000}, api.ErrMissing},
		{"no such wrap", weak, api.Strand{Length: 1000, Core: 100, Over: 1001, Wire: "weaker", Wrap: "iron"}, api.ErrMissing},
		{"just strong enough", weak, api.Strand{Length: 1000, Core: 100, Wire: "weak"}, api.OK},
		{"not strong enough", weak, api.Strand{Length: 1000, Core: 100, Wire: "weaker"}, api.ErrZero},
		{"the wrap bears nothing", weak, api.Strand{Length: 1000, Core: 100, Over: 3000, Wire: "weaker", Wrap: "steel"}, api.ErrZero},
		{"a weak wrap", weak, api.Strand{Length: 1000, Core: 100, Over: 101, Wire: "steel", Wrap: "weaker"}, api.OK},
		{"no wires", nil, plain(), api.ErrMissing},
	} {
		wantErr(t, "CheckStrand: "+c.what, scale.CheckStrand(c.l, c.s), c.want)
		n, e := scale.MassOf(c.l, c.s)
		wantErr(t, "MassOf: "+c.what, e, c.want)
		if want := exactMass(c.l, c.s); c.want == api.OK && n != want || c.want != api.OK && n != 0 {
			t.Errorf("MassOf: %s: %d, want %d", c.what, n, want)
		}
		_, e = scale.Tension(c.l, c.s, api.Range{})
		if want := c.want; want == api.OK {
			wantErr(t, "Tension without a frequency: "+c.what, e, api.ErrRange)
		} else {
			wantErr(t, "Tension: "+c.what, e, want)
		}
	}
}

// P2.1: the mass number of the examples, and of a wrap.
func TestMassOf(t *testing.T) {
	n, e := scale.MassOf(steel(), plain())
	if n != 24661000000 || e != api.OK {
		t.Errorf("plain: %d, error %d", n, e)
	}
	n, e = scale.MassOf(steel(), wound())
	if n != 24661*1440000+27000*(9000000-1440000) || e != api.OK {
		t.Errorf("wound: %d, error %d", n, e)
	}
}
