package restore_test

import (
	"reflect"
	"slices"
	"testing"

	"agraffe/api"
	"agraffe/restore"
)

// R1: the errors of tasks come ahead of those of other arguments, and beside them there is nothing.
func TestErrorsOfTasks(t *testing.T) {
	wrong := []string{"paint", "open", "open"}
	gone := append(shelf(), stocked("", -1, -1))
	for want, l := range badTasks() {
		wantErr(t, "CheckTasks", restore.CheckTasks(l), want)
		wantErr(t, "CheckFindings", restore.CheckFindings(l, make([]api.Finding, 99)), want)
		wantErr(t, "CheckClosure", restore.CheckClosure(l, wrong, wrong), want)
		cents, e := restore.Cost(l, gone, wrong)
		if wantErr(t, "Cost", e, want); cents != 0 {
			t.Error("Cost:", cents)
		}
		names, cents, e := restore.Cheapest(l, gone, wrong)
		if wantOnly(t, "Cheapest", names, e, want); cents != 0 {
			t.Error("Cheapest:", cents)
		}
		names, e = restore.ByFirst(l, wrong)
		wantOnly(t, "ByFirst", names, e, want)
		names, e = restore.OrderOf(l, wrong)
		wantOnly(t, "OrderOf", names, e, want)
		sum, chain, e := restore.Hours(l, wrong)
		if wantErr(t, "Hours", e, want); sum != 0 || chain != 0 {
			t.Error("Hours:", sum, chain)
		}
		parts, e := restore.PartsOf(l, wrong)
		wantOnly(t, "PartsOf", parts, e, want)
		names, cents, e = restore.Estimate(l, gone, make([]api.Finding, 99))
		if wantOnly(t, "Estimate", names, e, want); cents != 0 {
			t.Error("Estimate:", cents)
		}
	}
}

// R1: the errors of a stock come ahead of those behind it.
func TestErrorsOfStocks(t *testing.T) {
	for want, s := range badStocks() {
		wantErr(t, "CheckStock", restore.CheckStock(s), want)
		cents, e := restore.Cost(works(), s, []string{"open", "open"})
		if wantErr(t, "Cost", e, want); cents != 0 {
			t.Error("Cost:", cents)
		}
		names, cents, e := restore.Cheapest(append(works(), tasks(10)...), s, []string{"open", "open"})
		if wantOnly(t, "Cheapest", names, e, want); cents != 0 {
			t.Error("Cheapest:", cents)
		}
		names, cents, e = restore.Estimate(append(works(), tasks(10)...), s, nil)
		if wantOnly(t, "Estimate", names, e, want); cents != 0 {
			t.Error("Estimate:", cents)
		}
		many := slices.Repeat([]api.PartPromise{promise("p1", "felt", 9)}, 201)
		wantErr(t, "CheckPromises", restore.CheckPromises(s, many), want)
		more, e := restore.AddPromise(s, many, promise("", "", 0))
		wantOnly(t, "AddPromise", more, e, want)
		left, e := restore.LeftOf(s, many)
		wantOnly(t, "LeftOf", left, e, want)
		missing, e := restore.MissingParts(s, many, parts(61))
		wantOnly(t, "MissingParts", missing, e, want)
	}
}

// R2: no function panics, and each one ends, whatever its numbers are.
func TestExtremes(t *testing.T) {
	for _, a := range extremes {
		for _, b := range extremes {
			extremeTasks(a, b)
			extremeParts(a, b)
			extremeWire(a, b)
		}
	}
	for _, text := range []string{"", " ", "\n", "\xff", "task", "task a 1 1\nneeds \n", "oneof\n", "part - -\n", "task  - -\n", "- - -"} {
		restore.Parse(text)
		restore.ParsePromise(text)
	}
}

func extremeTasks(a, b int) {
	s := []api.Stocked{stocked("felt", a, 1), stocked("wire", 1, b)}
	for _, l := range [][]api.Task{
		nil, make([]api.Task, 2), tasks(64), {{Name: "open", Cents: a, Hours: b}},
		changed(func(l []api.Task) { l[2].Parts[0].Count, l[4].Hours = a, b }),
		changed(func(l []api.Task) { l[0].OneOf = [][]string{nil, {"", "open"}} }),
	} {
		restore.CheckTasks(l)
		for _, set := range [][]string{nil, {""}, {"open"}, {"open", "patch"}, {"t0", "t63"}, {"z", "a", "z"}} {
			restore.CheckFindings(l, []api.Finding{finding("a", set...), finding("", "")})
			restore.CheckClosure(l, nil, set)
			restore.CheckClosure(l, set, set)
			restore.Cost(l, s, set)
			restore.Cheapest(l, s, set)
			restore.ByFirst(l, set)
			restore.OrderOf(l, set)
			restore.Hours(l, set)
			restore.PartsOf(l, set)
			restore.Estimate(l, s, []api.Finding{finding("a", set...)})
		}
		restore.Print(l)
	}
}

func extremeParts(a, b int) {
	s := []api.Stocked{stocked("felt", 1, a), stocked("wire", 1, 10000)}
	for _, l := range [][]api.PartPromise{nil, {promise("p", "felt", b)}, {promise("p", "wire", a), promise("p", "wire", b)}, make([]api.PartPromise, 3)} {
		restore.CheckPromises(s, l)
		restore.AddPromise(s, l, promise("p", "wire", b))
		restore.LeftOf(s, l)
		restore.MissingParts(s, l, []api.PartCount{part("wire", a), part("x", b)})
		restore.MissingParts(nil, l, []api.PartCount{part("", a)})
	}
	restore.FormatPromise(promise("", "\n", a))
	for _, w := range [][]api.WantedPart{nil, {place("a", span(a, b)), place("b", span(0, b))}, {place("a"), place("")}, places(2)} {
		for _, o := range [][]api.OfferedPart{nil, {offer("x", a), offer("y", b, a)}, {offer("x")}, sized(1)} {
			restore.Match(w, o)
			for _, m := range [][]int{nil, {a}, {a, b}, {b, -1, a}} {
				restore.CheckMatch(w, o, m)
				restore.CheckCover(w, o, [2][]int{m, {a}})
				restore.CheckCover(w, o, [2][]int{nil, m})
			}
			if len(w) > 0 && len(o) > 0 {
				restore.Fits(w[0], o[0])
			}
		}
	}
	restore.Fits(api.WantedPart{}, api.OfferedPart{})
}

func extremeWire(a, b int) {
	for _, c := range [][]api.Coil{nil, {coil("a", a, b)}, {coil("a", 900, a), coil("b", b, 5)}, coils()} {
		for _, l := range [][]api.WirePiece{nil, {piece(900, a, b)}, {piece(a, 1, 1), piece(900, b, 1)}, {piece(900, 1, min(b, 3))}} {
			restore.CutFirst(c, l)
			for _, cuts := range [][][]int{nil, {nil}, {{a}}, {{a}, {b}}, {{0, a, b}}} {
				restore.CheckCuts(c, l, cuts)
			}
		}
	}
	for _, weights := range [][]int{nil, {a}, {a, b}, {0, 1000000, b}} {
		restore.Split(a, weights)
		restore.Split(1000000000000, weights)
	}
}

// scribble writes over lists, and behind them.
func scribble[T any](x T, lists ...[]T) {
	for _, l := range lists {
		l = append(l, x)
		for n := range l {
			l[n] = x
		}
	}
}

// roomy has room behind a list, which is empty.
func roomy[T any](l []T) []T {
	return slices.Grow(slices.Clone(l), 9)
}

// untouched looks at a list and at the room behind it.
func untouched[T any](t *testing.T, what string, l, want []T) {
	t.Helper()
	behind := l[len(l):cap(l)]
	if !reflect.DeepEqual(l, want) || !reflect.DeepEqual(behind, make([]T, len(behind))) {
		t.Errorf("%s: %v, behind it %v, want %v", what, l, behind, want)
	}
}

// roomyTasks have room behind all their lists.
func roomyTasks() []api.Task {
	l := roomy(works())
	for n := range l {
		l[n].Needs, l[n].Parts = roomy(l[n].Needs), roomy(l[n].Parts)
		l[n].OneOf = roomy(l[n].OneOf)
		for g := range l[n].OneOf {
			l[n].OneOf[g] = roomy(l[n].OneOf[g])
		}
	}
	return l
}

// R3, R4: tasks and stocks stay as they are, and results share no memory with them or with later results.
func TestMemoryOfTasks(t *testing.T) {
	l, s, set := roomyTasks(), roomy(shelf()), roomy([]string{"open", "renew", "tune"})
	f := roomy([]api.Finding{finding("a", roomy([]string{"tune", "renew"})...)})
	promises, need := roomy([]api.PartPromise{promise("p1", "felt", 2)}), roomy([]api.PartCount{part("felt", 4)})
	for range 2 {
		cheapest, _, e := restore.Cheapest(l, s, set)
		wantList(t, "Cheapest", cheapest, e, set...)
		first, e := restore.ByFirst(l, set)
		wantList(t, "ByFirst", first, e, "clean", "open", "patch", "renew", "tune")
		order, e := restore.OrderOf(l, set)
		wantList(t, "OrderOf", order, e, set...)
		estimate, _, e := restore.Estimate(l, s, f)
		wantList(t, "Estimate", estimate, e, set...)
		scribble("x", cheapest, first, order, estimate)
		parts, e := restore.PartsOf(l, set)
		wantList(t, "PartsOf", parts, e, part("felt", 1))
		left, e := restore.LeftOf(s, promises)
		wantList(t, "LeftOf", left, e, part("felt", 3))
		missing, e := restore.MissingParts(s, promises, need)
		wantList(t, "MissingParts", missing, e, part("felt", 1))
		scribble(part("x", 9), parts, left, missing)
		more, e := restore.AddPromise(s, promises, promise("p2", "felt", 1))
		wantList(t, "AddPromise", more, e, promise("p1", "felt", 2), promise("p2", "felt", 1))
		again, e := restore.AddPromise(s, promises, promise("p3", "felt", 3))
		wantList(t, "AddPromise again", again, e, promise("p1", "felt", 2), promise("p3", "felt", 3))
		scribble(promise("x", "x", 9), more, again)
		wantErr(t, "CheckClosure", restore.CheckClosure(l, set, set), api.OK)
		wantErr(t, "CheckFindings", restore.CheckFindings(l, f), api.OK)
		restore.Print(l)
	}
	untouched(t, "set", set, []string{"open", "renew", "tune"})
	untouched(t, "stock", s, shelf())
	untouched(t, "findings", f, []api.Finding{finding("a", "tune", "renew")})
	untouched(t, "tasks of a finding", f[0].Tasks, []string{"tune", "renew"})
	untouched(t, "promises", promises, []api.PartPromise{promise("p1", "felt", 2)})
	untouched(t, "need", need, []api.PartCount{part("felt", 4)})
	if !sameTasks(l, works()) || !sameTasks(l[:10][5:], make([]api.Task, 5)) {
		t.Error("tasks:", l[:10])
	}
	for _, x := range l {
		untouched(t, "needs", x.Needs[len(x.Needs):], []string{})
		untouched(t, "parts", x.Parts[len(x.Parts):], []api.PartCount{})
		untouched(t, "groups", x.OneOf[len(x.OneOf):], [][]string{})
		for _, group := range x.OneOf {
			untouched(t, "a group", group[len(group):], []string{})
		}
	}
}

// R3, R4: places, parts, wire and weights likewise.
func TestMemoryOfParts(t *testing.T) {
	w, o, m := roomy(bushings()), roomy(offers()), roomy([]int{1, 0})
	both := [2][]int{roomy([]int{0}), roomy([]int{0})}
	c, l, cuts, weights := roomy(coils()), roomy(pieces()), roomy([][]int{{0, 1}, {0}}), roomy([]int{1, 2, 3})
	for range 2 {
		match, cover, e := restore.Match(w, o)
		wantList(t, "Match", match, e, 1, 0)
		if count, e := restore.CheckCover(w, o, cover); count != 2 || e != api.OK {
			t.Error("cover:", cover, e)
		}
		scribble(9, match, cover[0], cover[1])
		count, e := restore.CheckMatch(w, o, m)
		wantNumber(t, "CheckMatch", count, e, 2)
		count, e = restore.CheckCover(w, o, both)
		wantNumber(t, "CheckCover", count, e, 2)
		first, e := restore.CutFirst(c, l)
		if e != api.OK || !equalCuts(first, cuts) {
			t.Error("CutFirst:", first, e)
		}
		scribble(9, first...)
		scribble([]int{9}, first)
		left, e := restore.CheckCuts(c, l, cuts)
		wantList(t, "CheckCuts", left, e, 0, 100)
		shares, e := restore.Split(10, weights)
		wantList(t, "Split", shares, e, 2, 3, 5)
		scribble(9, left, shares)
	}
	untouched(t, "places", w, bushings())
	untouched(t, "parts", o, offers())
	untouched(t, "match", m, []int{1, 0})
	untouched(t, "places of a cover", both[0], []int{0})
	untouched(t, "parts of a cover", both[1], []int{0})
	untouched(t, "coils", c, coils())
	untouched(t, "pieces", l, pieces())
	untouched(t, "cuts", cuts, [][]int{{0, 1}, {0}})
	untouched(t, "weights", weights, []int{1, 2, 3})
}

// R3: the lists of one result share no memory.
func TestMemoryOfOneResult(t *testing.T) {
	cuts, e := restore.CutFirst(coils(), pieces())
	wantErr(t, "CutFirst", e, api.OK)
	scribble(9, cuts[0])
	if !slices.Equal(cuts[1], []int{0}) {
		t.Error("CutFirst:", cuts)
	}
	_, cover, e := restore.Match(places(3), sized(2))
	wantErr(t, "Match", e, api.OK)
	kept := slices.Clone(cover[1])
	scribble(9, cover[0])
	if !slices.Equal(cover[1], kept) {
		t.Error("Match:", cover)
	}
	const text = "task a 1 1\ntask b 1 1\ntask c 1 1\nneeds a b\noneof b a\noneof a\npart x 1\n"
	want, _, _ := restore.Parse(text)
	for n := range 4 {
		l, _, e := restore.Parse(text)
		wantErr(t, "Parse", e, api.OK)
		x := &l[2]
		switch n {
		case 0:
			scribble("x", x.Needs)
			x.Needs = want[2].Needs
		case 1:
			scribble("x", x.OneOf[0])
			x.OneOf[0] = want[2].OneOf[0]
		case 2:
			scribble("x", x.OneOf[1])
			x.OneOf[1] = want[2].OneOf[1]
		case 3:
			scribble(part("x", 9), x.Parts)
			x.Parts = want[2].Parts
		}
		if !sameTasks(l, want) {
			t.Error(n, l)
		}
	}
}

// R5: a nil list and an empty one are the same.
func TestEmptyLists(t *testing.T) {
	for _, set := range [][]string{nil, {}} {
		for _, l := range [][]api.Task{nil, {}, {{Name: "open"}}, {{Name: "open", Needs: []string{}, OneOf: [][]string{}, Parts: []api.PartCount{}}}} {
			for _, s := range [][]api.Stocked{nil, {}} {
				wantErr(t, "CheckClosure", restore.CheckClosure(l, set, set), api.OK)
				cents, e := restore.Cost(l, s, set)
				wantNumber(t, "Cost", cents, e, 0)
				names, cents, e := restore.Cheapest(l, s, set)
				wantList(t, "Cheapest", names, e)
				wantNumber(t, "Cheapest", cents, e, 0)
				names, e = restore.ByFirst(l, set)
				wantList(t, "ByFirst", names, e)
				names, _, e = restore.Estimate(l, s, []api.Finding{finding("a", set...)})
				wantList(t, "Estimate", names, e)
			}
			want := ""
			if len(l) > 0 {
				want = "task open 0 0\n"
			}
			if text, e := restore.Print(l); text != want || e != api.OK {
				t.Errorf("Print: %q, error %d", text, e)
			}
		}
		wantErr(t, "an empty group", restore.CheckTasks([]api.Task{{Name: "open", OneOf: [][]string{set}}}), api.ErrShape)
	}
	for _, l := range [][]api.PartPromise{nil, {}} {
		for _, need := range [][]api.PartCount{nil, {}} {
			missing, e := restore.MissingParts(shelf(), l, need)
			wantList(t, "MissingParts", missing, e)
		}
		more, e := restore.AddPromise(shelf(), l, promise("p1", "felt", 1))
		wantList(t, "AddPromise", more, e, promise("p1", "felt", 1))
	}
	for _, none := range [][]int{nil, {}} {
		_, e := restore.Split(1, none)
		wantErr(t, "Split", e, api.ErrShape)
		_, e = restore.Fits(place("a", span(0, 1)), offer("x", none...))
		wantErr(t, "Fits", e, api.ErrShape)
		count, e := restore.CheckMatch([]api.WantedPart{}, nil, none)
		wantNumber(t, "CheckMatch", count, e, 0)
		count, e = restore.CheckCover(nil, []api.OfferedPart{}, [2][]int{none, none})
		wantNumber(t, "CheckCover", count, e, 0)
		_, e = restore.CheckCuts(coils(), pieces()[1:], [][]int{none})
		wantErr(t, "CheckCuts", e, api.ErrShape)
	}
	for _, cuts := range [][][]int{nil, {}} {
		left, e := restore.CheckCuts(coils(), nil, cuts)
		wantList(t, "CheckCuts", left, e, 1000, 700)
	}
}
