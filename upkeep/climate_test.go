package upkeep_test

import (
	"slices"
	"testing"

	"agraffe/api"
	"agraffe/upkeep"
)

// P7.7: what is accepted, and the first error of what is not.
func TestCheckClimate(t *testing.T) {
	for _, c := range []struct {
		what string
		l    []api.Climate
		want api.Errno
	}{
		{"nothing", nil, api.ErrNone},
		{"an empty list", []api.Climate{}, api.ErrNone},
		{"one reading", []api.Climate{reading(7, 500)}, api.OK},
		{"the ends", []api.Climate{reading(0, 0), reading(100000, 1000)}, api.OK},
		{"200 readings", readings(200), api.OK},
		{"201 readings", readings(201), api.ErrLarge},
		{"201 readings ahead of their errors", slices.Repeat([]api.Climate{reading(-1, 0)}, 201), api.ErrLarge},
		{"a day below 0", []api.Climate{reading(-1, 0)}, api.ErrRange},
		{"the day 100001", []api.Climate{reading(100001, 0)}, api.ErrRange},
		{"a humidity below 0", []api.Climate{reading(0, -1)}, api.ErrRange},
		{"the humidity 1001", []api.Climate{reading(0, 1001)}, api.ErrRange},
		{"the same day", []api.Climate{reading(5, 1), reading(5, 2)}, api.ErrOrder},
		{"an earlier day", []api.Climate{reading(5, 1), reading(4, 2)}, api.ErrOrder},
		{"a wrong humidity on an earlier day", []api.Climate{reading(5, 1), reading(4, 1001)}, api.ErrRange},
		{"an earlier day ahead of a wrong one", []api.Climate{reading(5, 1), reading(4, 1), reading(-1, 1)}, api.ErrOrder},
	} {
		wantErr(t, c.what, upkeep.CheckClimate(c.l), c.want)
		if c.want == api.OK {
			continue
		}
		n, e := upkeep.HumidityOn(c.l, -1)
		if wantErr(t, c.what+", HumidityOn", e, c.want); n != 0 {
			t.Error(c.what, n)
		}
		if len(c.l) > 0 {
			last := len(c.l) - 1
			l, e := upkeep.AddReading(c.l[:last], c.l[last])
			if wantErr(t, c.what+", AddReading", e, c.want); len(l) > 0 {
				t.Error(c.what, l)
			}
		}
	}
}

// P7.7: one more reading, at the end.
func TestAddReading(t *testing.T) {
	for _, c := range []struct {
		what string
		l    []api.Climate
		c    api.Climate
		want api.Errno
	}{
		{"the first one", nil, reading(7, 500), api.OK},
		{"the first one of an empty list", []api.Climate{}, reading(0, 0), api.OK},
		{"a later one", readings(5), reading(5, 1000), api.OK},
		{"the 200th one", readings(199), reading(100000, 0), api.OK},
		{"the 201st one", readings(200), reading(100000, 0), api.ErrLarge},
		{"the 201st one ahead of its errors", readings(200), reading(-1, 0), api.ErrLarge},
		{"one on the same day", readings(5), reading(4, 0), api.ErrOrder},
		{"an earlier one", readings(5), reading(3, 0), api.ErrOrder},
		{"a wrong first one", nil, reading(0, 1001), api.ErrRange},
		{"a wrong one", readings(5), reading(5, 1001), api.ErrRange},
		{"errors of the list first", []api.Climate{reading(5, 1), reading(5, 1)}, reading(-1, 0), api.ErrOrder},
	} {
		got, e := upkeep.AddReading(c.l, c.c)
		wantErr(t, c.what, e, c.want)
		if e == api.OK && !slices.Equal(got, append(slices.Clone(c.l), c.c)) || e != api.OK && len(got) > 0 {
			t.Error(c.what, got)
		}
	}
}

// P7.7: the humidity of a day is that of the last reading up to it.
func TestHumidityOn(t *testing.T) {
	l := []api.Climate{reading(10, 300), reading(11, 400), reading(20, 500)}
	for day, want := range map[int]int{0: 300, 9: 300, 10: 300, 11: 400, 12: 400, 19: 400, 20: 500, 21: 500, 100000: 500} {
		n, e := upkeep.HumidityOn(l, day)
		wantNumber(t, "HumidityOn", n, e, want)
	}
	for _, day := range []int{-1, 100001, extremes[0], extremes[len(extremes)-1]} {
		n, e := upkeep.HumidityOn(l, day)
		if wantErr(t, "no day", e, api.ErrRange); n != 0 {
			t.Error(day, n)
		}
	}
}
