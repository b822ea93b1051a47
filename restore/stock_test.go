package restore_test

import (
	"math"
	"slices"
	"testing"

	"agraffe/api"
	"agraffe/restore"
)

// twoParts is a stock of felt, and of wire of which there is none.
func twoParts() []api.Stocked {
	return []api.Stocked{stocked("wire", 1, 0), stocked("felt", 1, 5)}
}

// P8.5: promises, and the order of their errors.
func TestPromises(t *testing.T) {
	plenty := []api.Stocked{stocked("felt", 0, 10000)}
	for _, c := range []struct {
		what string
		s    []api.Stocked
		l    []api.PartPromise
		want api.Errno
	}{
		{"none", nil, nil, api.OK},
		{"the example", shelf(), []api.PartPromise{promise("p1", "felt", 2), promise("p2", "felt", 3)}, api.OK},
		{"twice to one instrument", shelf(), []api.PartPromise{promise("p1", "felt", 2), promise("p1", "felt", 2)}, api.OK},
		{"all at once", plenty, []api.PartPromise{promise("p1", "felt", 10000)}, api.OK},
		{"200 promises", plenty, slices.Repeat([]api.PartPromise{promise("p1", "felt", 50)}, 200), api.OK},
		{"201 promises", plenty, slices.Repeat([]api.PartPromise{promise("p1", "felt", 1)}, 201), api.ErrLarge},
		{"201 promises without names", plenty, make([]api.PartPromise, 201), api.ErrLarge},
		{"no name", shelf(), []api.PartPromise{promise("", "felt", 1)}, api.ErrName},
		{"a digit ahead", shelf(), []api.PartPromise{promise("1p", "felt", 1)}, api.ErrName},
		{"no name, ahead of the part", shelf(), []api.PartPromise{promise("", "hide", 0)}, api.ErrName},
		{"no name, ahead of the count", shelf(), []api.PartPromise{promise("", "felt", 6)}, api.ErrName},
		{"no such part", shelf(), []api.PartPromise{promise("p1", "hide", 1)}, api.ErrMissing},
		{"no part", shelf(), []api.PartPromise{promise("p1", "", 1)}, api.ErrMissing},
		{"no such part, ahead of the count", shelf(), []api.PartPromise{promise("p1", "hide", 0)}, api.ErrMissing},
		{"no stock", nil, []api.PartPromise{promise("p1", "felt", 1)}, api.ErrMissing},
		{"a count of 0", shelf(), []api.PartPromise{promise("p1", "felt", 0)}, api.ErrRange},
		{"a count below 0", shelf(), []api.PartPromise{promise("p1", "felt", -1)}, api.ErrRange},
		{"the least int", shelf(), []api.PartPromise{promise("p1", "felt", math.MinInt)}, api.ErrRange},
		{"a count of 10000", shelf(), []api.PartPromise{promise("p1", "felt", 10000)}, api.ErrStock},
		{"a count of 10001", shelf(), []api.PartPromise{promise("p1", "felt", 10001)}, api.ErrRange},
		{"all that there is", shelf(), []api.PartPromise{promise("p1", "felt", 5)}, api.OK},
		{"more than there is", shelf(), []api.PartPromise{promise("p1", "felt", 6)}, api.ErrStock},
		{"more than is left", shelf(), []api.PartPromise{promise("p1", "felt", 3), promise("p2", "felt", 3)}, api.ErrStock},
		{"one of none", twoParts(), []api.PartPromise{promise("p1", "wire", 1)}, api.ErrStock},
		{"a stock ahead of a later name", shelf(), []api.PartPromise{promise("p1", "felt", 6), promise("", "felt", 1)}, api.ErrStock},
		{"the stock ahead of 201 promises", stock(61), make([]api.PartPromise, 201), api.ErrLarge},
		{"a part of the stock", append(shelf(), stocked("", 1, 1)), make([]api.PartPromise, 201), api.ErrName},
	} {
		wantErr(t, c.what, restore.CheckPromises(c.s, c.l), c.want)
	}
}

// P8.5: one more promise.
func TestAddPromise(t *testing.T) {
	plenty := []api.Stocked{stocked("felt", 0, 10000)}
	many := slices.Repeat([]api.PartPromise{promise("p1", "felt", 1)}, 200)
	two := []api.PartPromise{promise("p1", "felt", 2)}
	for _, c := range []struct {
		what string
		s    []api.Stocked
		l    []api.PartPromise
		p    api.PartPromise
		want api.Errno
	}{
		{"the first one", shelf(), nil, promise("p1", "felt", 5), api.OK},
		{"the rest", shelf(), two, promise("p2", "felt", 3), api.OK},
		{"the same once more", shelf(), two, two[0], api.OK},
		{"too many", shelf(), two, promise("p2", "felt", 4), api.ErrStock},
		{"no name", shelf(), two, promise("", "felt", 1), api.ErrName},
		{"no such part", shelf(), two, promise("p1", "hide", 1), api.ErrMissing},
		{"a count of 0", shelf(), two, promise("p1", "felt", 0), api.ErrRange},
		{"the 200th one", plenty, many[:199], promise("p1", "felt", 1), api.OK},
		{"the 201st one", plenty, many, promise("p1", "felt", 1), api.ErrLarge},
		{"the 201st one, ahead of its own error", plenty, many, promise("", "felt", 1), api.ErrLarge},
		{"an earlier one", shelf(), []api.PartPromise{promise("p1", "felt", 6)}, promise("", "felt", 1), api.ErrStock},
		{"an earlier one ahead of the number", plenty, append(many[:199:199], promise("p1", "hide", 1)), promise("p1", "felt", 1), api.ErrMissing},
		{"the stock", append(shelf(), stocked("felt", 1, 1)), two, promise("", "felt", 1), api.ErrExists},
	} {
		got, e := restore.AddPromise(c.s, c.l, c.p)
		if wantOnly(t, c.what, got, e, c.want); c.want == api.OK {
			wantList(t, c.what, got, e, append(slices.Clone(c.l), c.p)...)
		}
	}
}

// P8.5: what is left, and what is missing.
func TestKnownLeft(t *testing.T) {
	both := []api.PartPromise{promise("p1", "felt", 2), promise("p2", "felt", 3)}
	left, e := restore.LeftOf(shelf(), both)
	wantList(t, "the example", left, e, part("felt", 0))
	left, e = restore.LeftOf(twoParts(), both[:1])
	wantList(t, "two parts", left, e, part("wire", 0), part("felt", 3))
	left, e = restore.LeftOf(nil, nil)
	wantList(t, "no stock", left, e)
	for _, c := range []struct {
		what       string
		l          []api.PartPromise
		need, want []api.PartCount
	}{
		{"the example", both, []api.PartCount{part("felt", 1), part("hide", 4)}, []api.PartCount{part("felt", 1), part("hide", 4)}},
		{"the order of need", both, []api.PartCount{part("wire", 4), part("felt", 1), part("a", 2)}, []api.PartCount{part("wire", 4), part("felt", 1), part("a", 2)}},
		{"enough", nil, []api.PartCount{part("hide", 1), part("felt", 5), part("wire", 2)}, []api.PartCount{part("hide", 1), part("wire", 2)}},
		{"one too few", nil, []api.PartCount{part("felt", 6)}, []api.PartCount{part("felt", 1)}},
		{"some promised", both[:1], []api.PartCount{part("felt", 10000)}, []api.PartCount{part("felt", 9997)}},
		{"nothing", both, nil, nil},
		{"nothing missing", both[:1], []api.PartCount{part("felt", 3)}, nil},
		{"60 parts", nil, parts(60), parts(60)},
	} {
		missing, e := restore.MissingParts(twoParts(), c.l, c.need)
		wantList(t, c.what, missing, e, c.want...)
	}
}

// P8.5: the errors of what is left and missing.
func TestErrorsOfLeft(t *testing.T) {
	for _, c := range []struct {
		what string
		s    []api.Stocked
		l    []api.PartPromise
		want api.Errno
	}{
		{"a stock", append(shelf(), stocked("", 1, 1)), make([]api.PartPromise, 201), api.ErrName},
		{"201 promises", shelf(), make([]api.PartPromise, 201), api.ErrLarge},
		{"a promise", shelf(), []api.PartPromise{promise("p1", "felt", 6)}, api.ErrStock},
	} {
		left, e := restore.LeftOf(c.s, c.l)
		wantOnly(t, c.what, left, e, c.want)
		missing, e := restore.MissingParts(c.s, c.l, []api.PartCount{part("", 0)})
		wantOnly(t, c.what+", ahead of what is needed", missing, e, c.want)
	}
	for _, c := range []struct {
		what string
		need []api.PartCount
		want api.Errno
	}{
		{"61 parts", parts(61), api.ErrLarge},
		{"61 parts without names", make([]api.PartCount, 61), api.ErrLarge},
		{"no name", []api.PartCount{part("felt", 9), part("", 0)}, api.ErrName},
		{"a part twice", []api.PartCount{part("felt", 9), part("hide", 1), part("felt", 0)}, api.ErrExists},
		{"a count of 0", []api.PartCount{part("felt", 0), part("", 1)}, api.ErrRange},
		{"a count of 10001", []api.PartCount{part("felt", 10001)}, api.ErrRange},
		{"a count below 0", []api.PartCount{part("hide", -1)}, api.ErrRange},
	} {
		missing, e := restore.MissingParts(shelf(), nil, c.need)
		wantOnly(t, c.what, missing, e, c.want)
	}
}

// P8.11: no part is promised more often than it is there; what is left and what is promised add up to the count.
func TestPromisesAddUp(t *testing.T) {
	r := dice()
	for range 100 {
		s := []api.Stocked{stocked("b", 1, from(r, 0, 20)), stocked("a", 1, from(r, 0, 20)), stocked("c", 1, from(r, 0, 3))}
		var l []api.PartPromise
		left := map[string]int{"a": s[1].Count, "b": s[0].Count, "c": s[2].Count}
		for range 30 {
			p := promise("p1", s[r.IntN(3)].Part, from(r, 1, 6))
			more, e := restore.AddPromise(s, l, p)
			if p.Count > left[p.Part] {
				wantOnly(t, "too many", more, e, api.ErrStock)
				continue
			}
			l = append(l, p)
			left[p.Part] -= p.Count
			wantList(t, "AddPromise", more, e, l...)
		}
		counts, e := restore.LeftOf(s, l)
		wantList(t, "LeftOf", counts, e, part("b", left["b"]), part("a", left["a"]), part("c", left["c"]))
		need := []api.PartCount{part("a", from(r, 1, 20)), part("d", from(r, 1, 9)), part("b", from(r, 1, 20))}
		var want []api.PartCount
		for _, p := range need {
			if left[p.Part] < p.Count {
				want = append(want, part(p.Part, p.Count-left[p.Part]))
			}
		}
		missing, e := restore.MissingParts(s, l, need)
		wantList(t, "MissingParts", missing, e, want...)
	}
}
