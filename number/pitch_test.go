package number_test

import (
	"fmt"
	"math"
	"math/big"
	"testing"

	"agraffe/api"
	"agraffe/number"
)

var badPitches = []api.Pitch{
	{}, pitch(0, 0, 0, -1), pitch(0, 0, 0, 13), pitch(1, 0, 0, 0), pitch(0, 0, 0, math.MinInt), pitch(0, 0, 0, math.MaxInt),
	pitch(401, 0, 0, 1), pitch(-401, 0, 0, 1), pitch(0, 401, 0, 1), pitch(0, -401, 0, 1), pitch(0, 0, 401, 1), pitch(0, 0, -401, 12),
	pitch(402, 0, 0, 2), pitch(math.MinInt, 0, 0, 1), pitch(0, math.MinInt, 0, 1), pitch(0, 0, math.MaxInt, 1),
}

func TestCheckPitch(t *testing.T) {
	for _, p := range []api.Pitch{pitch(0, 0, 0, 1), pitch(0, 0, 0, 12), pitch(6, 0, 0, 12), pitch(400, -400, 400, 12), pitch(-400, 400, -400, 1), pitch(-19, 12, 0, 1)} {
		wantErr(t, fmt.Sprint(p), number.CheckPitch(p), api.OK)
	}
	for _, p := range badPitches {
		wantErr(t, fmt.Sprint(p), number.CheckPitch(p), api.ErrRange)
	}
}

// Each function looks at its pitches first, and answers with zero values beside the error.
func TestBadPitches(t *testing.T) {
	good, badFrac := pitch(1, 0, 0, 12), frac(2, 4)
	for _, p := range badPitches {
		if q, e := number.Normal(p); q != (api.Pitch{}) || e != api.ErrRange {
			t.Error("Normal", p, q, e)
		}
		for _, two := range [][2]api.Pitch{{p, good}, {good, p}, {p, p}} {
			if q, e := number.Join(two[0], two[1]); q != (api.Pitch{}) || e != api.ErrRange {
				t.Error("Join", two, q, e)
			}
			if n, e := number.Order(two[0], two[1]); n != 0 || e != api.ErrRange {
				t.Error("Order", two, n, e)
			}
		}
		if q, e := number.Power(p, badFrac); q != (api.Pitch{}) || e != api.ErrRange {
			t.Error("Power", p, q, e)
		}
		if q, n, e := number.Octave(p); q != (api.Pitch{}) || n != 0 || e != api.ErrRange {
			t.Error("Octave", p, q, n, e)
		}
		if r, e := number.Enclose(p, 1000); r != (api.Range{}) || e != api.ErrRange {
			t.Error("Enclose", p, r, e)
		}
	}
	for _, c := range []struct {
		by   api.Frac
		want api.Errno
	}{{badFrac, api.ErrForm}, {frac(1, 0), api.ErrForm}, {frac(math.MinInt, 1), api.ErrRange}, {frac(1, 1000000001), api.ErrRange}} {
		if q, e := number.Power(pitch(400, 0, 0, 1), c.by); q != (api.Pitch{}) || e != c.want {
			t.Error("Power", c.by, q, e)
		}
	}
}

func TestNormal(t *testing.T) {
	for _, c := range [][2]api.Pitch{
		{pitch(6, 0, 0, 12), pitch(1, 0, 0, 2)}, {pitch(0, 0, 0, 7), pitch(0, 0, 0, 1)}, {pitch(0, 0, 0, 12), pitch(0, 0, 0, 1)},
		{pitch(-6, 4, 0, 8), pitch(-3, 2, 0, 4)}, {pitch(-6, 4, 5, 8), pitch(-6, 4, 5, 8)}, {pitch(400, -400, 400, 10), pitch(40, -40, 40, 1)},
		{pitch(2, 2, 2, 1), pitch(2, 2, 2, 1)}, {pitch(0, 0, -9, 12), pitch(0, 0, -3, 4)}, {pitch(400, 1, 0, 12), pitch(400, 1, 0, 12)},
	} {
		if p, e := number.Normal(c[0]); p != c[1] || e != api.OK {
			t.Errorf("Normal of %v: %v, %d, want %v", c[0], p, e, c[1])
		}
	}
}

func TestJoin(t *testing.T) {
	for _, c := range []struct {
		p, q, want api.Pitch
		err        api.Errno
	}{
		{pitch(1, 0, 0, 12), pitch(1, 0, 0, 4), pitch(1, 0, 0, 3), api.OK},
		{pitch(-1, 1, 0, 1), pitch(2, -1, 0, 1), pitch(1, 0, 0, 1), api.OK},
		{pitch(7, -3, 2, 5), pitch(-7, 3, -2, 5), pitch(0, 0, 0, 1), api.OK},
		{pitch(1, 0, 0, 3), pitch(0, 1, 0, 4), pitch(4, 3, 0, 12), api.OK},
		{pitch(0, 0, 0, 11), pitch(0, 1, 0, 7), pitch(0, 1, 0, 7), api.OK},
		{pitch(200, -200, 0, 1), pitch(200, -200, 0, 1), pitch(400, -400, 0, 1), api.OK},
		{pitch(400, 0, 0, 12), pitch(400, 0, 0, 12), pitch(200, 0, 0, 3), api.OK},
		{pitch(400, 0, 400, 1), pitch(-400, 0, -399, 1), pitch(0, 0, 1, 1), api.OK},
		{pitch(400, 0, 0, 1), pitch(1, 0, 0, 1), api.Pitch{}, api.ErrLarge},
		{pitch(0, -400, 0, 1), pitch(0, -1, 0, 1), api.Pitch{}, api.ErrLarge},
		{pitch(0, 0, 400, 1), pitch(0, 0, 1, 12), api.Pitch{}, api.ErrLarge},
		{pitch(1, 0, 0, 12), pitch(1, 0, 0, 7), api.Pitch{}, api.ErrLarge},
		{pitch(1, 0, 0, 12), pitch(1, 0, 0, 8), api.Pitch{}, api.ErrLarge},
	} {
		if got, e := number.Join(c.p, c.q); got != c.want || e != c.err {
			t.Errorf("Join of %v and %v: %v, %d, want %v, %d", c.p, c.q, got, e, c.want, c.err)
		}
	}
}

func TestPower(t *testing.T) {
	for _, c := range []struct {
		p    api.Pitch
		by   api.Frac
		want api.Pitch
		err  api.Errno
	}{
		{pitch(-1, 1, 0, 1), frac(1, 4), pitch(-1, 1, 0, 4), api.OK},
		{pitch(1, 0, 0, 12), frac(12, 1), pitch(1, 0, 0, 1), api.OK},
		{pitch(-1, 1, 0, 1), frac(-2, 3), pitch(2, -2, 0, 3), api.OK},
		{pitch(-1, 1, 0, 1), frac(-1, 1), pitch(1, -1, 0, 1), api.OK},
		{pitch(5, 3, -7, 11), frac(0, 1), pitch(0, 0, 0, 1), api.OK},
		{pitch(0, 0, 0, 11), frac(-1000000000, 999999999), pitch(0, 0, 0, 1), api.OK},
		{pitch(3, 6, 9, 12), frac(4, 3), pitch(1, 2, 3, 3), api.OK},
		{pitch(400, 0, 0, 1), frac(1, 12), pitch(100, 0, 0, 3), api.OK},
		{pitch(400, 0, 0, 1), frac(1, 400), pitch(1, 0, 0, 1), api.OK},
		{pitch(1, 0, 0, 1), frac(400, 1), pitch(400, 0, 0, 1), api.OK},
		{pitch(1, 0, 0, 1), frac(401, 1), api.Pitch{}, api.ErrLarge},
		{pitch(0, 1, 0, 1), frac(-401, 1), api.Pitch{}, api.ErrLarge},
		{pitch(1, 0, 0, 12), frac(1, 2), api.Pitch{}, api.ErrLarge},
		{pitch(1, 0, 0, 1), frac(1, 13), api.Pitch{}, api.ErrLarge},
		{pitch(400, 400, 400, 12), frac(1000000000, 999999999), api.Pitch{}, api.ErrLarge},
	} {
		if got, e := number.Power(c.p, c.by); got != c.want || e != c.err {
			t.Errorf("Power of %v by %v: %v, %d, want %v, %d", c.p, c.by, got, e, c.want, c.err)
		}
	}
}

func TestOrder(t *testing.T) {
	for _, c := range []struct {
		p, q api.Pitch
		want int
	}{
		{pitch(-12, 12, 0, 1), pitch(7, 0, 0, 1), 1},
		{pitch(7, 0, 0, 1), pitch(-12, 12, 0, 1), -1},
		{pitch(6, 0, 0, 12), pitch(1, 0, 0, 2), 0},
		{pitch(0, 0, 0, 5), pitch(0, 0, 0, 7), 0},
		{pitch(7, 0, 0, 12), pitch(-1, 1, 0, 1), -1},
		{pitch(4, 0, 0, 12), pitch(-2, 0, 1, 1), 1},
		{pitch(-4, 4, -1, 1), pitch(0, 0, 0, 1), 1},
		{pitch(1, 0, 0, 12), pitch(1, 0, 0, 11), -1},
		{pitch(-1, 0, 0, 12), pitch(-1, 0, 0, 11), 1},
		{pitch(400, 400, 400, 1), pitch(-400, -400, -400, 1), 1},
		{pitch(400, 400, 400, 11), pitch(400, 400, 400, 12), 1},
	} {
		if n, e := number.Order(c.p, c.q); n != c.want || e != api.OK {
			t.Errorf("Order of %v and %v: %d, %d, want %d", c.p, c.q, n, e, c.want)
		}
	}
}

func TestOrderAgainstBig(t *testing.T) {
	r := dice()
	for i := range 3000 {
		p, q := randomPitch(r, 1+i%400), randomPitch(r, 1+i%400)
		quotient := powerOf(p.Two*q.Den-q.Two*p.Den, p.Three*q.Den-q.Three*p.Den, p.Five*q.Den-q.Five*p.Den)
		if n, e := number.Order(p, q); e != api.OK || n != quotient.Cmp(big.NewRat(1, 1)) {
			t.Fatal(p, q, n, e)
		}
	}
}

// Of all pitches with whole exponents these two lie the closest to 1; their twelfth roots lie closer still.
func TestOrderOfNeighbours(t *testing.T) {
	for _, c := range []struct {
		p    api.Pitch
		want int
	}{{pitch(-140, 374, -195, 1), -1}, {pitch(140, -374, 195, 1), 1}, {pitch(21, 290, -207, 1), 1}, {pitch(-21, -290, 207, 1), -1}} {
		for _, den := range []int{1, 7, 12} {
			p := c.p
			p.Den = den
			if n, e := number.Order(p, pitch(0, 0, 0, 1)); e != api.OK || n != c.want {
				t.Error(p, n, e)
			}
		}
	}
	if n, e := number.Order(pitch(-140, 374, -195, 12), pitch(-140, 374, -195, 11)); e != api.OK || n != 1 {
		t.Error(n, e)
	}
	if n, e := number.Order(pitch(-140, 374, 0, 12), pitch(0, 0, 195, 12)); e != api.OK || n != -1 {
		t.Error(n, e)
	}
}

func TestOctave(t *testing.T) {
	for _, c := range []struct {
		p, want api.Pitch
		octaves int
		err     api.Errno
	}{
		{pitch(0, 1, 0, 1), pitch(-1, 1, 0, 1), 1, api.OK},
		{pitch(0, 0, 0, 9), pitch(0, 0, 0, 1), 0, api.OK},
		{pitch(1, 0, 0, 1), pitch(0, 0, 0, 1), 1, api.OK},
		{pitch(-1, 0, 0, 1), pitch(0, 0, 0, 1), -1, api.OK},
		{pitch(-1, 0, 0, 12), pitch(11, 0, 0, 12), -1, api.OK},
		{pitch(26, 0, 0, 12), pitch(1, 0, 0, 6), 2, api.OK},
		{pitch(400, 0, 0, 1), pitch(0, 0, 0, 1), 400, api.OK},
		{pitch(-400, 0, 0, 1), pitch(0, 0, 0, 1), -400, api.OK},
		{pitch(-400, 0, 0, 12), pitch(2, 0, 0, 3), -34, api.OK},
		{pitch(0, 0, 172, 1), pitch(-399, 0, 172, 1), 399, api.OK},
		{pitch(0, 0, 173, 1), api.Pitch{}, 0, api.ErrLarge},
		{pitch(0, 0, -171, 1), pitch(398, 0, -171, 1), -398, api.OK},
		{pitch(0, 0, -172, 1), pitch(400, 0, -172, 1), -400, api.OK},
		{pitch(0, 0, -173, 1), api.Pitch{}, 0, api.ErrLarge},
		{pitch(0, 0, 344, 2), pitch(-399, 0, 172, 1), 399, api.OK},
		{pitch(0, 0, 400, 1), api.Pitch{}, 0, api.ErrLarge},
		{pitch(400, 400, 400, 1), api.Pitch{}, 0, api.ErrLarge},
		{pitch(-400, -400, -400, 1), api.Pitch{}, 0, api.ErrLarge},
	} {
		got, octaves, e := number.Octave(c.p)
		if got != c.want || octaves != c.octaves || e != c.err {
			t.Errorf("Octave of %v: %v, %d, %d, want %v, %d, %d", c.p, got, octaves, e, c.want, c.octaves, c.err)
		}
	}
}

// octavesOf counts octaves by the length of big numbers in bits, which the program does not do.
func octavesOf(p api.Pitch) int {
	power := powerOf(p.Two, p.Three, p.Five)
	bits := power.Num().BitLen() - power.Denom().BitLen()
	if powerOf(bits, 0, 0).Cmp(power) > 0 {
		bits--
	}
	return int(math.Floor(float64(bits) / float64(p.Den)))
}

func TestOctaveAgainstBig(t *testing.T) {
	r := dice()
	large := 0
	for i := range 3000 {
		p := randomPitch(r, 1+i%400)
		normal, _ := number.Normal(p)
		want, wantedErr := octavesOf(normal), api.OK
		rest := normal
		rest.Two -= want * normal.Den
		if rest.Two < -400 || rest.Two > 400 {
			rest, want, wantedErr = api.Pitch{}, 0, api.ErrLarge
			large++
		}
		if got, octaves, e := number.Octave(p); got != rest || octaves != want || e != wantedErr {
			t.Fatal(p, got, octaves, e, rest, want, wantedErr)
		}
	}
	if large < 100 || large > 2000 {
		t.Error(large, "of 3000 were too large")
	}
}

func TestEnclose(t *testing.T) {
	for _, c := range []struct {
		p     api.Pitch
		times int
		want  api.Range
		err   api.Errno
	}{
		{pitch(-19, 12, 0, 1), 1000, span(1013, 1014), api.OK},
		{pitch(1, 0, 0, 2), 1000, span(1414, 1415), api.OK},
		{pitch(6, 0, 0, 12), 1000, span(1414, 1415), api.OK},
		{pitch(2, 0, 0, 1), 5, span(20, 20), api.OK},
		{pitch(-1, 0, 0, 1), 5, span(2, 3), api.OK},
		{pitch(-1, 0, 0, 1), 4, span(2, 2), api.OK},
		{pitch(-1, 0, 0, 1), 1, span(0, 1), api.OK},
		{pitch(0, 0, 0, 12), 1000000000, span(1000000000, 1000000000), api.OK},
		{pitch(3, 0, 0, 12), 440000, span(523251, 523252), api.OK},
		{pitch(-400, -400, -400, 1), 1000000000, span(0, 1), api.OK},
		{pitch(-30, 0, 0, 1), 1000000000, span(0, 1), api.OK},
		{pitch(-9, 0, -9, 1), 1000000000, span(1, 1), api.OK},
		{pitch(6, 0, 6, 1), 1000000000, span(1000000000000000, 1000000000000000), api.OK},
		{pitch(15, 0, 15, 1), 1, span(1000000000000000, 1000000000000000), api.OK},
		{pitch(-263, 300, -57, 4), 931002126, span(999999999999999, 1000000000000000), api.OK},
		{pitch(230, 172, -181, 4), 635263631, api.Range{}, api.ErrLarge},
		{pitch(15, 0, 15, 1), 2, api.Range{}, api.ErrLarge},
		{pitch(50, 0, 0, 1), 1, api.Range{}, api.ErrLarge},
		{pitch(49, 0, 0, 1), 1, span(562949953421312, 562949953421312), api.OK},
		{pitch(400, 400, 400, 1), 1, api.Range{}, api.ErrLarge},
		{pitch(400, 400, 400, 1), 1000000000, api.Range{}, api.ErrLarge},
		{pitch(0, 0, 0, 1), 0, api.Range{}, api.ErrRange},
		{pitch(0, 0, 0, 1), -1, api.Range{}, api.ErrRange},
		{pitch(0, 0, 0, 1), 1000000001, api.Range{}, api.ErrRange},
		{pitch(400, 400, 400, 1), 0, api.Range{}, api.ErrRange},
		{pitch(0, 0, 0, 1), math.MinInt, api.Range{}, api.ErrRange},
	} {
		if got, e := number.Enclose(c.p, c.times); got != c.want || e != c.err {
			t.Errorf("Enclose of %v times %d: %v, %d, want %v, %d", c.p, c.times, got, e, c.want, c.err)
		}
	}
}

// With big numbers: n is at most times multiplied by the pitch if n^Den is at most times^Den 2^Two 3^Three 5^Five.
func TestEncloseAgainstBig(t *testing.T) {
	r := dice()
	found := 0
	for i := range 3000 {
		p := randomPitch(r, 1+i%400)
		times := from(r, 1, 1000000000) >> from(r, 0, 29)
		times = max(times, 1)
		goal := powerOf(p.Two, p.Three, p.Five)
		against := func(n int) int {
			power := func(x int) *big.Rat {
				return new(big.Rat).SetInt(new(big.Int).Exp(big.NewInt(int64(x)), big.NewInt(int64(p.Den)), nil))
			}
			return power(n).Cmp(new(big.Rat).Mul(power(times), goal))
		}
		got, e := number.Enclose(p, times)
		if e == api.ErrLarge {
			if against(1000000000000000) >= 0 {
				t.Fatal(p, times, e)
			}
			continue
		}
		exact := against(got.Lo) == 0
		if e != api.OK || against(got.Lo) > 0 || against(got.Lo+1) <= 0 || exact != (got.Hi == got.Lo) || !exact && got.Hi != got.Lo+1 {
			t.Fatal(p, times, got, e)
		}
		found++
	}
	if found < 500 {
		t.Error("only", found, "enclosures were compared")
	}
}
