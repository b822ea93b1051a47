package upkeep_test

import (
	"slices"
	"testing"

	"agraffe/api"
	"agraffe/upkeep"
)

// P7.6: what is accepted, and the first error of what is not.
func TestCheckTorques(t *testing.T) {
	var many []api.Torque
	for n := range 61 {
		many = append(many, torque(n, n))
	}
	for _, c := range []struct {
		what string
		l    []api.Torque
		want api.Errno
	}{
		{"nothing", nil, api.OK},
		{"the ends", []api.Torque{torque(0, 0), torque(100000, 100000)}, api.OK},
		{"60 torques", many[:60], api.OK},
		{"61 torques", many, api.ErrLarge},
		{"61 torques ahead of their errors", slices.Repeat([]api.Torque{torque(-1, 0)}, 61), api.ErrLarge},
		{"a day below 0", []api.Torque{torque(-1, 0)}, api.ErrRange},
		{"the day 100001", []api.Torque{torque(100001, 0)}, api.ErrRange},
		{"a force below 0", []api.Torque{torque(0, -1)}, api.ErrRange},
		{"the force 100001", []api.Torque{torque(0, 100001)}, api.ErrRange},
		{"the same day", []api.Torque{torque(5, 1), torque(5, 2)}, api.ErrOrder},
		{"an earlier day", []api.Torque{torque(5, 1), torque(4, 2)}, api.ErrOrder},
		{"a wrong force on an earlier day", []api.Torque{torque(5, 1), torque(4, -1)}, api.ErrRange},
		{"an earlier day ahead of a wrong one", []api.Torque{torque(5, 1), torque(4, 1), torque(-1, 1)}, api.ErrOrder},
	} {
		wantErr(t, c.what, upkeep.CheckTorques(c.l), c.want)
		if c.want != api.OK {
			day, e := upkeep.LooseOn(c.l, -1)
			if wantErr(t, c.what+", loose", e, c.want); day != 0 {
				t.Error(c.what, day)
			}
		}
	}
}

// P7.6: days that are known, and errors in their order.
func TestKnownLooseOn(t *testing.T) {
	falling := []api.Torque{torque(100, 1000), torque(200, 900)}
	for _, c := range []struct {
		what  string
		l     []api.Torque
		least int
		want  int
		e     api.Errno
	}{
		{"the example", falling, 500, 600, api.OK},
		{"just behind a whole day", falling, 499, 601, api.OK},
		{"the day of the last record", falling, 900, 200, api.OK},
		{"loose for long", falling, 950, 200, api.OK},
		{"loose at first", falling, 100000, 200, api.OK},
		{"not yet", falling, 899, 201, api.OK},
		{"no force", falling, 0, 1100, api.OK},
		{"a record between, which does not count", []api.Torque{torque(100, 1000), torque(150, 10), torque(200, 900)}, 500, 600, api.OK},
		{"within a day", []api.Torque{torque(0, 10), torque(3, 3)}, 1, 4, api.OK},
		{"two thirds of a day", []api.Torque{torque(0, 100), torque(2, 97)}, 90, 7, api.OK},
		{"the last day", []api.Torque{torque(0, 100000), torque(1, 99999)}, 0, 100000, api.OK},
		{"beyond the last day", []api.Torque{torque(1, 100000), torque(2, 99999)}, 0, 0, api.ErrNone},
		{"far beyond the last day", []api.Torque{torque(0, 100000), torque(99999, 99999)}, 0, 0, api.ErrNone},
		{"rising", []api.Torque{torque(1, 5), torque(2, 6)}, 4, 0, api.ErrNone},
		{"rising from below", []api.Torque{torque(1, 3), torque(2, 6)}, 4, 0, api.ErrNone},
		{"rising, but loose", []api.Torque{torque(1, 5), torque(2, 6)}, 6, 2, api.OK},
		{"the same", []api.Torque{torque(1, 5), torque(2, 5)}, 4, 0, api.ErrNone},
		{"the same, but loose", []api.Torque{torque(1, 5), torque(2, 5)}, 5, 2, api.OK},
		{"loose on the last day of all", []api.Torque{torque(1, 5), torque(100000, 5)}, 5, 100000, api.OK},
		{"least below 0", nil, -1, 0, api.ErrRange},
		{"least 100001", falling[:1], 100001, 0, api.ErrRange},
		{"no record", nil, 0, 0, api.ErrShape},
		{"one record", falling[:1], 100000, 0, api.ErrShape},
	} {
		if day, e := upkeep.LooseOn(c.l, c.least); day != c.want || e != c.e {
			t.Errorf("%s: %d, error %d, want %d, error %d", c.what, day, e, c.want, c.e)
		}
	}
}

// looseOn tries day by day: the force on a day, times the days between the records, without fractions.
func looseOn(a, b api.Torque, least int) (int, api.Errno) {
	for day := b.Day; day <= 100000; day++ {
		if a.Force*(b.Day-a.Day)+(b.Force-a.Force)*(day-a.Day) <= least*(b.Day-a.Day) {
			return day, api.OK
		}
	}
	return 0, api.ErrNone
}

// P7.6: the first day on which the line is low enough.
func TestLooseOn(t *testing.T) {
	r := dice()
	count := map[api.Errno]int{}
	for range 2000 {
		first := torque(from(r, 0, 90000), from(r, 0, 1000))
		last := torque(from(r, first.Day+1, first.Day+from(r, 1, 9000)), from(r, 0, 1000))
		least := from(r, 0, 1000)
		want, wantError := looseOn(first, last, least)
		day, e := upkeep.LooseOn([]api.Torque{first, last}, least)
		if day != want || e != wantError {
			t.Fatal(first, last, least, day, e, want, wantError)
		}
		count[e]++
	}
	if count[api.OK] < 300 || count[api.ErrNone] < 300 {
		t.Error("too few:", count)
	}
}
