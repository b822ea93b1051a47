package action_test

import (
	"math/big"
	"slices"
	"testing"

	"agraffe/action"
	"agraffe/api"
)

// P4.5: the curves of parts, by their drivers.
func TestCurveOf(t *testing.T) {
	a := upright()
	a.Parts = append(a.Parts,
		api.ActionPart{Name: "damper", Driver: "wippen", Curve: curve(200, 0, 450, 100)},
		api.ActionPart{Name: "check", Driver: "hammer", Curve: curve(4400, -7)},
		api.ActionPart{Name: "back", Driver: "damper", Curve: curve(0, 100, 100, 0)},
		api.ActionPart{Name: "wide", Curve: curve(-10, 0, 2000, 2010)},
		api.ActionPart{Name: "narrow", Curve: curve(10, 5, 20, 6)},
	)
	for part, want := range map[string]api.Curve{
		"wippen": curve(0, 0, 1000, 500),
		"hammer": curve(0, 0, 900, 4500, 1000, 4300),
		"damper": curve(0, 0, 400, 0, 900, 100, 1000, 100),
		"check":  curve(0, -7, 880, -7, 900, -7, 950, -7, 1000, -7),
		"back":   curve(0, 100, 400, 100, 900, 0, 1000, 0),
		"wide":   curve(0, 10, 1000, 1010),
		"narrow": curve(0, 5, 10, 5, 20, 6, 1000, 6),
	} {
		if c, e := action.CurveOf(a, part); !equalCurves(c, want) || e != api.OK {
			t.Errorf("%s: %v, error %d, want %v", part, c, e, want)
		}
	}
	for _, name := range []string{"", "-", "lift", "Hammer", "hamme"} {
		if c, e := action.CurveOf(a, name); e != api.ErrMissing || !isNoCurve(c) {
			t.Errorf("%s: %v, error %d", name, c, e)
		}
	}
}

// P4.5: positions and ratios, at corners and at both ends.
func TestPositionsAndRatios(t *testing.T) {
	for _, c := range []struct {
		part            string
		dip             api.Frac
		position, ratio api.Frac
	}{
		{"wippen", frac(0, 1), frac(0, 1), frac(1, 2)},
		{"hammer", frac(0, 1), frac(0, 1), frac(5, 1)},
		{"hammer", frac(1, 3), frac(5, 3), frac(5, 1)},
		{"hammer", frac(900, 1), frac(4500, 1), frac(-2, 1)},
		{"hammer", frac(1799, 2), frac(8995, 2), frac(5, 1)},
		{"hammer", frac(950, 1), frac(4400, 1), frac(-2, 1)},
		{"hammer", frac(1000, 1), frac(4300, 1), frac(0, 1)},
		{"wippen", frac(1000, 1), frac(500, 1), frac(0, 1)},
		{"wippen", frac(999999, 1000), frac(999999, 2000), frac(1, 2)},
	} {
		if y, e := action.Position(upright(), c.part, c.dip); y != c.position || e != api.OK {
			t.Errorf("Position of %s at %v: %v, error %d, want %v", c.part, c.dip, y, e, c.position)
		}
		if s, e := action.Ratio(upright(), c.part, c.dip); s != c.ratio || e != api.OK {
			t.Errorf("Ratio of %s at %v: %v, error %d, want %v", c.part, c.dip, s, e, c.ratio)
		}
	}
}

// wrongDips are dips with their errors, for a full dip of 1000 or less.
func wrongDips() map[api.Frac]api.Errno {
	return map[api.Frac]api.Errno{
		frac(2, 4): api.ErrForm, frac(0, 0): api.ErrForm, frac(1, -1): api.ErrForm, frac(-2, 4): api.ErrForm, frac(3000, 3): api.ErrForm,
		frac(-1, 1): api.ErrRange, frac(-1, 1000000000): api.ErrRange, frac(1001, 1): api.ErrRange, frac(1000001, 1000): api.ErrRange,
		frac(1000000001, 1): api.ErrRange, frac(1, 1000000001): api.ErrRange, frac(1000000000, 1): api.ErrRange,
	}
}

// P4.5, P4.6, P4.7: the error of a dip, behind that of the part, and ahead of ErrLarge.
func TestDipErrors(t *testing.T) {
	for dip, want := range wrongDips() {
		for _, a := range []api.Action{upright(), tooLarge()} {
			part := a.Parts[len(a.Parts)-1].Name
			y, e := action.Position(a, part, dip)
			wantErr(t, "Position", e, want)
			s, e := action.Ratio(a, part, dip)
			wantErr(t, "Ratio", e, want)
			b, e := action.Balance(a, dip)
			wantErr(t, "Balance", e, want)
			w, e := action.Touch(a, dip)
			wantErr(t, "Touch", e, want)
			l, e := action.Happened(a, dip)
			wantErr(t, "Happened", e, want)
			wantErr(t, "CheckTouch", action.CheckTouch(a, api.TouchWindow{}, dip), want)
			if !isZero(y) || !isZero(s) || !isZero(b) || w != [2]api.Frac{} || len(l) > 0 {
				t.Error("beside an error:", dip, y, s, b, w, l)
			}
		}
		_, e := action.Position(upright(), "jack", dip)
		wantErr(t, "Position of no part", e, api.ErrMissing)
		_, e = action.Ratio(upright(), "jack", dip)
		wantErr(t, "Ratio of no part", e, api.ErrMissing)
	}
}

// P4.5: ErrLarge of curves, which does not reach parts that are driven otherwise, and of values.
func TestPartsTooLarge(t *testing.T) {
	a := tooLarge()
	a.Parts = append(a.Parts, api.ActionPart{Name: "i", Driver: "h", Curve: curve(0, 0)}, api.ActionPart{Name: "j", Driver: "g", Curve: curve(0, 0)})
	for part, want := range map[string]api.Errno{"f": api.OK, "g": api.OK, "h": api.ErrLarge, "i": api.ErrLarge, "j": api.OK} {
		c, e := action.CurveOf(a, part)
		wantErr(t, "CurveOf "+part, e, want)
		y, e := action.Position(a, part, frac(0, 1))
		wantErr(t, "Position of "+part, e, want)
		s, e := action.Ratio(a, part, frac(0, 1))
		wantErr(t, "Ratio of "+part, e, want)
		if want != api.OK && (!isNoCurve(c) || !isZero(y) || !isZero(s)) {
			t.Error("beside an error:", part, c, y, s)
		}
	}
	fine := frac(1, 1000000000)
	if y, e := action.Position(upright(), "wippen", fine); e != api.ErrLarge || !isZero(y) {
		t.Error("Position at a fine dip:", y, e)
	}
	if s, e := action.Ratio(upright(), "wippen", fine); e != api.OK || s != frac(1, 2) {
		t.Error("Ratio at a fine dip:", s, e)
	}
	many := api.Action{Dip: 30, Parts: []api.ActionPart{{Name: "a", Curve: zigzag(12, 9)}, {Name: "b", Driver: "a", Curve: stairs(11)}}}
	if _, e := action.CurveOf(many, "b"); e != api.ErrLarge {
		t.Error("CurveOf of very many corners:", e)
	}
}

// P4.5: the curve of a part is that of its chain, part by part; positions and ratios are its values and slopes.
func TestPartsAtRandom(t *testing.T) {
	r := dice()
	count := map[api.Errno]int{}
	for range 3000 {
		a := randomAction(r, []int{10, 100, 10000}[r.IntN(3)])
		p := a.Parts[r.IntN(len(a.Parts))]
		chain := []api.Curve{p.Curve}
		for driver := p.Driver; driver != ""; {
			n := slices.IndexFunc(a.Parts, func(p api.ActionPart) bool { return p.Name == driver })
			chain = append(chain, a.Parts[n].Curve)
			driver = a.Parts[n].Driver
		}
		want, err := curve(0, 0, a.Dip, a.Dip), api.OK
		for len(chain) > 0 && err == api.OK {
			want, err = composed(chain[len(chain)-1], want)
			chain = chain[:len(chain)-1]
		}
		c, e := action.CurveOf(a, p.Name)
		if !equalCurves(c, want) || e != err {
			t.Fatal(a, p.Name, c, e, want, err)
		}
		count[e]++
		l := ledger{}
		dip := big.NewRat(int64(from(r, 0, 1000*a.Dip)), 1000)
		x, _ := l.result(dip)
		s, e := action.Ratio(a, p.Name, x)
		if e != err {
			t.Fatal(a, p.Name, x, s, e)
		}
		if err != api.OK {
			continue
		}
		if slope, _ := action.Slope(want, x); s != slope {
			t.Fatal(a, p.Name, x, s, slope)
		}
		position, err := l.result(l.value(want, dip))
		if y, e := action.Position(a, p.Name, x); y != position || e != err {
			t.Fatal(a, p.Name, x, y, e)
		}
	}
	if count[api.OK] < 1000 || count[api.ErrLarge] < 30 {
		t.Error(count)
	}
}

// P4.11: if the curves of a part and its drivers do not fall, its position never falls.
func TestRisingPositions(t *testing.T) {
	r := dice()
	for range 500 {
		a := randomAction(r, 100)
		for _, p := range a.Parts {
			slices.SortFunc(p.Curve.Corners, func(a, b api.Knee) int { return a.Y.Num - b.Y.Num })
			x := -100
			for i := range p.Curve.Corners {
				x += from(r, 1, 20)
				p.Curve.Corners[i].X.Num = x
			}
		}
		part := a.Parts[len(a.Parts)-1].Name
		before := whole(-10000)
		for dip := range a.Dip + 1 {
			y, e := action.Position(a, part, frac(dip, 1))
			if e == api.ErrLarge {
				continue
			}
			if e != api.OK || ratOf(y).Cmp(before) < 0 {
				t.Fatal(a, part, dip, y, e)
			}
			before = ratOf(y)
		}
	}
}
