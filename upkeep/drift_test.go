package upkeep_test

import (
	"math/big"
	"math/rand/v2"
	"slices"
	"testing"

	"agraffe/api"
	"agraffe/upkeep"
)

// P7.8: what is accepted.
func TestCheckDrift(t *testing.T) {
	for _, c := range []struct {
		d    api.Drift
		want api.Errno
	}{
		{drift(0, 1, 0, 0), api.OK},
		{drift(1000, 365, 1000, 1000000), api.OK},
		{drift(-1, 1, 0, 0), api.ErrRange},
		{drift(1001, 1, 0, 0), api.ErrRange},
		{drift(0, 0, 0, 0), api.ErrRange},
		{drift(0, -1, 0, 0), api.ErrRange},
		{drift(0, 366, 0, 0), api.ErrRange},
		{drift(0, 1, -1, 0), api.ErrRange},
		{drift(0, 1, 1001, 0), api.ErrRange},
		{drift(0, 1, 0, -1), api.ErrRange},
		{drift(0, 1, 0, 1000001), api.ErrRange},
		{api.Drift{}, api.ErrRange},
	} {
		wantErr(t, "CheckDrift", upkeep.CheckDrift(c.d), c.want)
		numbers := func(what string, call func(api.Drift, []api.Climate, int) (int, api.Errno)) {
			n, e := call(c.d, readings(1), 1)
			if wantErr(t, what, e, c.want); e != api.OK && n != 0 {
				t.Error(what, c.d, n)
			}
			if c.want != api.OK {
				_, e = call(c.d, nil, -1)
				wantErr(t, what+" ahead of the climate", e, c.want)
			}
		}
		numbers("Moisture", upkeep.Moisture)
		numbers("Offset", upkeep.Offset)
		numbers("ServiceDay", upkeep.ServiceDay)
	}
}

// P7.7, P7.8: the errors of climates come ahead of those of days.
func TestErrorsOfClimates(t *testing.T) {
	d := drift(400, 10, 0, 400)
	for want, l := range badClimates() {
		for what, call := range map[string]func(api.Drift, []api.Climate, int) (int, api.Errno){"Moisture": upkeep.Moisture, "Offset": upkeep.Offset, "ServiceDay": upkeep.ServiceDay} {
			for _, day := range []int{-1, 1} {
				n, e := call(d, l, day)
				if wantErr(t, what, e, want); n != 0 {
					t.Error(what, n)
				}
			}
		}
	}
}

// P7.8: the errors of days.
func TestDaysOfDrift(t *testing.T) {
	d := drift(400, 10, 0, 400)
	for day, want := range map[int]api.Errno{-1: api.ErrRange, 0: api.OK, 1: api.OK, 4000: api.OK, 4001: api.ErrRange, extremes[0]: api.ErrRange, extremes[len(extremes)-1]: api.ErrRange} {
		for what, call := range map[string]func(api.Drift, []api.Climate, int) (int, api.Errno){"Moisture": upkeep.Moisture, "Offset": upkeep.Offset} {
			n, e := call(d, readings(1), day)
			if wantErr(t, what, e, want); e != api.OK && n != 0 {
				t.Error(what, day, n)
			}
		}
		within := want
		if day == 0 {
			within = api.ErrRange
		}
		n, e := upkeep.ServiceDay(d, readings(1), day)
		if wantErr(t, "ServiceDay", e, within); e == api.OK && n != day || e != api.OK && n != 0 {
			t.Error("ServiceDay:", day, n)
		}
	}
}

// P7.8: the example, and its edges.
func TestKnownDrift(t *testing.T) {
	l := []api.Climate{reading(0, 500)}
	for _, c := range []struct {
		what             string
		d                api.Drift
		l                []api.Climate
		day              int
		moisture, offset int
	}{
		{"the example, day 0", drift(400, 10, 50, 0), l, 0, 400000, 0},
		{"the example, day 1", drift(400, 10, 50, 0), l, 1, 410000, 500},
		{"the example, day 2", drift(400, 10, 50, 0), l, 2, 419000, 950},
		{"drying", drift(600, 10, 50, 0), l, 2, 581000, -950},
		{"no memory", drift(400, 1, 1, 0), l, 1, 500000, 100},
		{"a day that is rounded down", drift(499, 365, 1000, 0), l, 1, 499002, 2},
		{"drying, rounded down", drift(501, 365, 1000, 0), l, 1, 500997, -3},
		{"an offset that is rounded down", drift(499, 365, 999, 0), l, 1, 499002, 1},
		{"drying, with an offset that is rounded down", drift(501, 365, 999, 0), l, 1, 500997, -3},
		{"a later reading", drift(400, 10, 50, 0), []api.Climate{reading(0, 500), reading(2, 0)}, 2, 369000, -1550},
		{"a reading of the day itself", drift(400, 10, 50, 0), []api.Climate{reading(1, 500), reading(2, 400)}, 2, 409000, 450},
		{"days before the first reading", drift(400, 10, 50, 0), []api.Climate{reading(3, 500)}, 2, 419000, 950},
		{"a little below the humidity for ever", drift(0, 365, 1000, 0), l, 4000, 499636, 499636},
		{"down to the humidity", drift(1000, 365, 1000, 0), l, 4000, 500000, -500000},
		{"the greatest offset", drift(0, 1, 1000, 0), []api.Climate{reading(0, 1000)}, 4000, 1000000, 1000000},
		{"the least offset", drift(1000, 1, 1000, 0), []api.Climate{reading(0, 0)}, 4000, 0, -1000000},
	} {
		wantNumber(t, c.what+", moisture", moisture(t, c.d, c.l, c.day), api.OK, c.moisture)
		n, e := upkeep.Offset(c.d, c.l, c.day)
		wantNumber(t, c.what+", offset", n, e, c.offset)
	}
}

// P7.8: the first day on which the offset is greater than the tolerance.
func TestKnownServiceDay(t *testing.T) {
	l, dry := []api.Climate{reading(0, 500)}, []api.Climate{reading(0, 300)}
	for _, c := range []struct {
		what         string
		d            api.Drift
		l            []api.Climate
		within, want int
	}{
		{"the example", drift(400, 10, 50, 400), l, 100, 1},
		{"just as much as the tolerance", drift(400, 10, 50, 500), l, 100, 2},
		{"a little less", drift(400, 10, 50, 499), l, 100, 1},
		{"at most within", drift(400, 10, 50, 500), l, 1, 1},
		{"within the day itself", drift(400, 10, 50, 500), l, 2, 2},
		{"never", drift(400, 10, 50, 5000), l, 100, 100},
		{"never up to the last day", drift(400, 10, 50, 5000), l, 4000, 4000},
		{"no tolerance", drift(400, 10, 50, 0), l, 100, 1},
		{"no tolerance, and no offset", drift(500, 10, 50, 0), l, 100, 100},
		{"no rate", drift(400, 10, 0, 0), l, 100, 100},
		{"drying", drift(400, 10, 50, 400), dry, 100, 1},
		{"drying, just as much as the tolerance", drift(400, 10, 50, 500), dry, 100, 2},
		{"a reading late", drift(500, 10, 50, 400), append(slices.Clone(l), reading(50, 0)), 100, 50},
	} {
		n, e := upkeep.ServiceDay(c.d, c.l, c.within)
		wantNumber(t, c.what, n, e, c.want)
	}
}

// down is the quotient by a number above 0, rounded down.
func down(n, by int) int {
	return int(new(big.Int).Div(big.NewInt(int64(n)), big.NewInt(int64(by))).Int64())
}

// P7.8: the moisture and the offset as the chapter defines them, day by day, and the day of service from them.
func TestDrift(t *testing.T) {
	r := dice()
	services := map[bool]int{}
	for range 300 {
		d, l, within := randomDrift(r), randomClimate(r), from(r, 1, 300)
		m, service := 1000*d.Start, within
		for day := 0; day <= within; day++ {
			if day > 0 {
				h, e := upkeep.HumidityOn(l, day)
				wantErr(t, "HumidityOn", e, api.OK)
				m += down(1000*h-m, d.Memory)
			}
			offset, e := upkeep.Offset(d, l, day)
			if moisture(t, d, l, day) != m || offset != down(d.Rate*(m-1000*d.Start), 1000) || e != api.OK {
				t.Fatal(d, l, day, m, offset, e)
			}
			if day > 0 && day < service && (offset > d.Tolerance || -offset > d.Tolerance) {
				service = day
			}
		}
		n, e := upkeep.ServiceDay(d, l, within)
		wantNumber(t, "ServiceDay", n, e, service)
		services[service < within]++
	}
	if services[true] < 50 || services[false] < 50 {
		t.Error("too few:", services)
	}
}

// wetter is a climate whose humidity is never less on any day.
func wetter(r *rand.Rand, l []api.Climate) []api.Climate {
	l = slices.Clone(l)
	for n := range l {
		l[n].Humidity = from(r, l[n].Humidity, 1000)
	}
	return l
}

// P7.12: with more humidity the moisture and the offset are never less.
func TestWetter(t *testing.T) {
	r := dice()
	for range 300 {
		d, l := randomDrift(r), randomClimate(r)
		more := wetter(r, l)
		for _, day := range []int{0, 1, 2, from(r, 3, 50), from(r, 50, 400), 4000} {
			if moisture(t, d, more, day) < moisture(t, d, l, day) {
				t.Fatal(d, l, more, day)
			}
			a, _ := upkeep.Offset(d, l, day)
			b, _ := upkeep.Offset(d, more, day)
			if b < a {
				t.Fatal(d, l, more, day, a, b)
			}
		}
	}
}

// P7.12: the day of service against a greater humidity, a greater tolerance and a smaller rate.
func TestServiceDays(t *testing.T) {
	r := dice()
	earlier := [3]int{}
	for range 1000 {
		d, l := randomDrift(r), randomClimate(r)
		day := func(d api.Drift, l []api.Climate) int {
			n, e := upkeep.ServiceDay(d, l, 500)
			wantErr(t, "ServiceDay", e, api.OK)
			return n
		}
		tolerant, slow := d, d
		tolerant.Tolerance = from(r, d.Tolerance, 1000000)
		slow.Rate = from(r, 0, d.Rate)
		dry := d
		dry.Start = slices.MinFunc(l, func(a, b api.Climate) int { return a.Humidity - b.Humidity }).Humidity
		for n, pair := range [][2]int{{day(d, l), day(tolerant, l)}, {day(d, l), day(slow, l)}, {day(dry, wetter(r, l)), day(dry, l)}} {
			if pair[0] > pair[1] {
				t.Fatal(n, d, l, pair)
			}
			if pair[0] < pair[1] {
				earlier[n]++
			}
		}
	}
	if slices.Min(earlier[:]) < 50 {
		t.Error("too few:", earlier)
	}
}

// P7.13: a reading changes no moisture before its day, and does on it.
func TestAddReadingAndMoisture(t *testing.T) {
	r := dice()
	changes := 0
	for range 300 {
		d, l := randomDrift(r), randomClimate(r)
		c := reading(l[len(l)-1].Day+from(r, 1, 30), from(r, 0, 1000))
		more, e := upkeep.AddReading(l, c)
		wantErr(t, "AddReading", e, api.OK)
		for _, day := range []int{0, from(r, 0, c.Day-1), c.Day - 1} {
			if moisture(t, d, more, day) != moisture(t, d, l, day) {
				t.Fatal(d, l, c, day)
			}
		}
		if moisture(t, d, more, c.Day) != moisture(t, d, l, c.Day) {
			changes++
		}
	}
	if changes < 200 {
		t.Error("too few changes:", changes)
	}
}
