package scale_test

import (
	"slices"
	"testing"

	"agraffe/api"
	"agraffe/number"
	"agraffe/scale"
)

// P2.6: the bounds of the length system, in their order.
func TestLengthSystem(t *testing.T) {
	l, e := scale.LengthSystem([]api.Range{span(1000, 2000), span(1500, 1800), span(1200, 1300)}, span(-5, 100))
	want := []api.Bound{
		{From: 3, To: 0, Most: 2000}, {From: 0, To: 3, Most: -1000},
		{From: 3, To: 1, Most: 1800}, {From: 1, To: 3, Most: -1500},
		{From: 3, To: 2, Most: 1300}, {From: 2, To: 3, Most: -1200},
		{From: 0, To: 1, Most: 5}, {From: 1, To: 0, Most: 100},
		{From: 1, To: 2, Most: 5}, {From: 2, To: 1, Most: 100},
	}
	if e != api.OK || !slices.Equal(l, want) {
		t.Errorf("LengthSystem: %v, error %d", l, e)
	}
	l, e = scale.LengthSystem(slices.Repeat([]api.Range{span(1000, 300000)}, 50), span(-300000, 300000))
	if e != api.OK || number.CheckSystem(51, l) != api.OK {
		t.Errorf("the greatest system: %d bounds, error %d", len(l), e)
	}
}

// P2.6: the errors of a length system.
func TestLengthErrors(t *testing.T) {
	fine := []api.Range{span(1000, 300000)}
	for _, c := range []struct {
		what   string
		bounds []api.Range
		drop   api.Range
		want   api.Errno
	}{
		{"none", nil, api.Range{}, api.OK},
		{"50", slices.Repeat(fine, 50), api.Range{}, api.OK},
		{"one length and one drop", []api.Range{span(1000, 1000)}, span(7, 7), api.OK},
		{"the greatest drops", fine, span(-300000, 300000), api.OK},
		{"51", make([]api.Range, 51), span(1, 0), api.ErrLarge},
		{"a short length", []api.Range{span(999, 2000)}, api.Range{}, api.ErrRange},
		{"a long length", []api.Range{span(1000, 2000), span(1000, 300001)}, api.Range{}, api.ErrRange},
		{"turned lengths", []api.Range{span(1001, 1000)}, api.Range{}, api.ErrRange},
		{"a little drop", nil, span(-300001, 0), api.ErrRange},
		{"a great drop", fine, span(0, 300001), api.ErrRange},
		{"turned drops", fine, span(1, 0), api.ErrRange},
	} {
		l, e := scale.LengthSystem(c.bounds, c.drop)
		wantErr(t, "LengthSystem: "+c.what, e, c.want)
		lengths, circle, e := scale.SmoothLengths(c.bounds, c.drop)
		wantErr(t, "SmoothLengths: "+c.what, e, c.want)
		if c.want != api.OK && len(l)+len(lengths) > 0 || len(circle) > 0 {
			t.Errorf("%s: %v, %v, %v", c.what, l, lengths, circle)
		}
	}
}

// P2.6: the examples.
func TestSmoothLengths(t *testing.T) {
	bounds := []api.Range{span(1000, 2000), span(1500, 1800)}
	l, circle, e := scale.SmoothLengths(bounds, span(0, 100))
	if e != api.OK || !slices.Equal(l, []int{1900, 1800}) || circle != nil {
		t.Errorf("small drops: %v, %v, error %d", l, circle, e)
	}
	drop := span(600, 700)
	l, circle, e = scale.SmoothLengths(bounds, drop)
	if e != api.ErrCycle || l != nil {
		t.Errorf("great drops: %v, error %d", l, e)
	}
	system, _ := scale.LengthSystem(bounds, drop)
	if n, e := number.CheckCircle(3, system, circle); n != -100 || e != api.OK {
		t.Errorf("the circle %v: %d, error %d", circle, n, e)
	}
	l, circle, e = scale.SmoothLengths(nil, drop)
	if len(l) != 0 || circle != nil || e != api.OK {
		t.Errorf("no lengths: %v, %v, error %d", l, circle, e)
	}
	l, _, e = scale.SmoothLengths([]api.Range{span(1000, 300000), span(1000, 300000)}, span(299000, 300000))
	if !slices.Equal(l, []int{300000, 1000}) || e != api.OK {
		t.Errorf("the greatest drop: %v, error %d", l, e)
	}
	l, _, e = scale.SmoothLengths([]api.Range{span(1000, 300000), span(1000, 300000)}, span(-300000, -299000))
	if !slices.Equal(l, []int{1000, 300000}) || e != api.OK {
		t.Errorf("the greatest rise: %v, error %d", l, e)
	}
}

// P2.6 and P2.9: the lengths are the greatest ones, found by lowering each one until nothing is broken; circles are accepted.
func TestSmoothLengthsAtRandom(t *testing.T) {
	r := dice()
	refusals := 0
	for range 1000 {
		bounds := make([]api.Range, from(r, 1, 12))
		for i := range bounds {
			low := max(1000, 200000-i*from(r, 5000, 9000)+from(r, -9000, 9000))
			bounds[i] = span(low, low+from(r, 0, 60000))
		}
		drop := span(from(r, -9000, 9000), 0)
		drop.Hi = drop.Lo + r.IntN(8000)
		want := greatestLengths(bounds, drop)
		l, circle, e := scale.SmoothLengths(bounds, drop)
		if want != nil {
			if e != api.OK || circle != nil || !slices.Equal(l, want) {
				t.Fatalf("%v %v: %v, %v, error %d, want %v", bounds, drop, l, circle, e, want)
			}
			continue
		}
		refusals++
		system, _ := scale.LengthSystem(bounds, drop)
		if sum, bad := number.CheckCircle(len(bounds)+1, system, circle); e != api.ErrCycle || l != nil || sum >= 0 || bad != api.OK {
			t.Fatalf("%v %v: %v, %v, error %d; circle %d, %d", bounds, drop, l, circle, e, sum, bad)
		}
	}
	if refusals < 100 || refusals > 900 {
		t.Errorf("%d refusals of 1000", refusals)
	}
}

// greatestLengths returns nil if there are none.
func greatestLengths(bounds []api.Range, drop api.Range) []int {
	l := make([]int, len(bounds))
	for i, r := range bounds {
		l[i] = r.Hi
	}
	for lowered := true; lowered; {
		lowered = false
		lower := func(i, most int) {
			if l[i] > most {
				l[i], lowered = most, true
			}
		}
		for i := 0; i+1 < len(l); i++ {
			lower(i, l[i+1]+drop.Hi)
			lower(i+1, l[i]-drop.Lo)
		}
		for i, r := range bounds {
			if l[i] < r.Lo {
				return nil
			}
		}
	}
	return l
}
