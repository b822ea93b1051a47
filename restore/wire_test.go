package restore_test

import (
	"slices"
	"testing"

	"agraffe/api"
	"agraffe/restore"
)

func coil(name string, gauge, length int) api.Coil {
	return api.Coil{Name: name, Gauge: gauge, Length: length}
}

func piece(gauge, length, count int) api.WirePiece {
	return api.WirePiece{Gauge: gauge, Length: length, Count: count}
}

// coils and pieces are those of the chapter's examples.
func coils() []api.Coil {
	return []api.Coil{coil("a", 900, 1000), coil("b", 900, 700)}
}
func pieces() []api.WirePiece {
	return []api.WirePiece{piece(900, 600, 2), piece(900, 400, 1)}
}

// rolls are so many coils with a millimetre each.
func rolls(count int) []api.Coil {
	var l []api.Coil
	for _, name := range numbered("c", count) {
		l = append(l, coil(name, 900, 100))
	}
	return l
}

func equalCuts(a, b [][]int) bool {
	return slices.EqualFunc(a, b, func(a, b []int) bool { return slices.Equal(a, b) })
}

// P8.7: the errors of coils and of pieces, in order.
func TestCoilsAndPieces(t *testing.T) {
	for _, c := range []struct {
		what string
		c    []api.Coil
		l    []api.WirePiece
		want api.Errno
	}{
		{"the example", coils(), pieces(), api.OK},
		{"nothing", nil, nil, api.OK},
		{"40 coils", rolls(40), nil, api.OK},
		{"41 coils", rolls(41), nil, api.ErrLarge},
		{"41 coils without names", make([]api.Coil, 41), nil, api.ErrLarge},
		{"no name", []api.Coil{coil("", 99, 1)}, nil, api.ErrName},
		{"a coil twice", append(rolls(3), coil("c0", 99, 1)), nil, api.ErrExists},
		{"a gauge ahead of a later name", []api.Coil{coil("a", 99, 1), coil("", 900, 1)}, nil, api.ErrRange},
		{"the least numbers", []api.Coil{coil("a", 100, 0)}, nil, api.OK},
		{"the greatest numbers", []api.Coil{coil("a", 3000, 1000000000)}, nil, api.OK},
		{"a gauge below", []api.Coil{coil("a", 99, 1)}, nil, api.ErrRange},
		{"a gauge above", []api.Coil{coil("a", 3001, 1)}, nil, api.ErrRange},
		{"a length below 0", []api.Coil{coil("a", 900, -1)}, nil, api.ErrRange},
		{"a length above", []api.Coil{coil("a", 900, 1000000001)}, nil, api.ErrRange},
		{"60 kinds", []api.Coil{coil("a", 900, 60)}, slices.Repeat([]api.WirePiece{piece(900, 1, 1)}, 60), api.OK},
		{"61 kinds", []api.Coil{coil("a", 900, 61)}, slices.Repeat([]api.WirePiece{piece(900, 1, 1)}, 61), api.ErrLarge},
		{"61 wrong kinds", coils(), make([]api.WirePiece, 61), api.ErrLarge},
		{"the least numbers of pieces", []api.Coil{coil("a", 100, 1)}, []api.WirePiece{piece(100, 1, 1)}, api.OK},
		{"the greatest numbers of pieces", []api.Coil{coil("a", 3000, 30000000)}, []api.WirePiece{piece(3000, 300000, 100)}, api.OK},
		{"a piece's gauge below", coils(), []api.WirePiece{piece(99, 1, 1)}, api.ErrRange},
		{"a piece's gauge above", coils(), []api.WirePiece{piece(3001, 1, 1)}, api.ErrRange},
		{"a piece's length of 0", coils(), []api.WirePiece{piece(900, 0, 1)}, api.ErrRange},
		{"a piece's length above", coils(), []api.WirePiece{piece(900, 300001, 1)}, api.ErrRange},
		{"no pieces", coils(), []api.WirePiece{piece(900, 1, 0)}, api.ErrRange},
		{"101 pieces", coils(), []api.WirePiece{piece(900, 1, 101)}, api.ErrRange},
		{"a kind ahead of what the first one lacks", coils(), []api.WirePiece{piece(900, 5000, 1), piece(900, 1, 0)}, api.ErrRange},
		{"coils ahead of pieces", []api.Coil{coil("", 900, 1)}, make([]api.WirePiece, 61), api.ErrName},
	} {
		cuts, e := restore.CutFirst(c.c, c.l)
		if wantErr(t, c.what, e, c.want); e != api.OK && len(cuts) > 0 {
			t.Error(c.what, cuts)
		}
		if c.want != api.OK {
			cuts = slices.Repeat([][]int{{99}}, 99)
		}
		left, e := restore.CheckCuts(c.c, c.l, cuts)
		wantOnly(t, c.what, left, e, c.want)
	}
}

// P8.7: cuts from the first coil, and wire that is missing.
func TestKnownCuts(t *testing.T) {
	three := []api.Coil{coil("a", 950, 1000), coil("b", 900, 1000), coil("c", 900, 2000), coil("d", 950, 10)}
	for _, c := range []struct {
		what string
		c    []api.Coil
		l    []api.WirePiece
		want [][]int
		left []int
		e    api.Errno
	}{
		{"the example", coils(), pieces(), [][]int{{0, 1}, {0}}, []int{0, 100}, api.OK},
		{"another gauge first", three, []api.WirePiece{piece(900, 800, 3), piece(950, 10, 2), piece(900, 200, 2)}, [][]int{{1, 2, 2}, {0, 0}, {1, 2}}, []int{980, 0, 200, 10}, api.OK},
		{"back to the first one", three, []api.WirePiece{piece(900, 1001, 1), piece(900, 1, 1)}, [][]int{{2}, {1}}, []int{1000, 999, 999, 10}, api.OK},
		{"no pieces", three, nil, nil, []int{1000, 1000, 2000, 10}, api.OK},
		{"nothing", nil, nil, nil, nil, api.OK},
		{"no coils", nil, pieces(), nil, nil, api.ErrStock},
		{"no such gauge", three, []api.WirePiece{piece(901, 1, 1)}, nil, nil, api.ErrStock},
		{"too long for any", three, []api.WirePiece{piece(900, 2001, 1)}, nil, nil, api.ErrStock},
		{"one too many", three, []api.WirePiece{piece(900, 900, 4)}, nil, nil, api.ErrStock},
		{"the last kind", three, []api.WirePiece{piece(900, 900, 3), piece(950, 1000, 1), piece(950, 11, 1)}, nil, nil, api.ErrStock},
	} {
		cuts, e := restore.CutFirst(c.c, c.l)
		if e != c.e || !equalCuts(cuts, c.want) {
			t.Errorf("%s: %v, error %d", c.what, cuts, e)
		}
		if c.e == api.OK {
			left, e := restore.CheckCuts(c.c, c.l, cuts)
			wantList(t, c.what, left, e, c.left...)
		}
	}
}

// P8.7: right and wrong cuts.
func TestCheckCuts(t *testing.T) {
	c := append(coils(), coil("c", 950, 5000))
	for _, x := range []struct {
		what string
		cuts [][]int
		left []int
		want api.Errno
	}{
		{"the example", [][]int{{0, 1}, {0}}, []int{0, 100, 5000}, api.OK},
		{"another order", [][]int{{1, 0}, {0}}, []int{0, 100, 5000}, api.OK},
		{"no lists", nil, nil, api.ErrShape},
		{"a list too few", [][]int{{0, 1}}, nil, api.ErrShape},
		{"a list too many", [][]int{{0, 1}, {0}, {}}, nil, api.ErrShape},
		{"a piece too few", [][]int{{0}, {0}}, nil, api.ErrShape},
		{"a piece too many", [][]int{{0, 1}, {0, 1}}, nil, api.ErrShape},
		{"the shape ahead of a coil", [][]int{{9, 9}, {}}, nil, api.ErrShape},
		{"no such coil", [][]int{{0, 3}, {0}}, nil, api.ErrMissing},
		{"no coil", [][]int{{0, -1}, {0}}, nil, api.ErrMissing},
		{"another gauge", [][]int{{0, 2}, {0}}, nil, api.ErrKind},
		{"not enough left of the kind", [][]int{{1, 1}, {0}}, nil, api.ErrStock},
		{"not enough left", [][]int{{0, 1}, {1}}, nil, api.ErrStock},
		{"not enough, ahead of no such coil", [][]int{{0, 0}, {9}}, nil, api.ErrStock},
		{"another gauge, ahead of not enough", [][]int{{2, 1}, {1}}, nil, api.ErrKind},
		{"no such coil, ahead of another gauge", [][]int{{9, 2}, {1}}, nil, api.ErrMissing},
	} {
		left, e := restore.CheckCuts(c, pieces(), x.cuts)
		if wantOnly(t, x.what, left, e, x.want); x.want == api.OK {
			wantList(t, x.what, left, e, x.left...)
		}
	}
}

// P8.7, P8.11: the first coil each time; what is left and what was cut add up to the coils.
func TestCuts(t *testing.T) {
	r := dice()
	for range 300 {
		c := rolls(from(r, 0, 5))
		for n := range c {
			c[n].Gauge, c[n].Length = 900+r.IntN(2), from(r, 0, 200)
		}
		var l []api.WirePiece
		for range from(r, 0, 4) {
			l = append(l, piece(900+r.IntN(2), from(r, 1, 60), from(r, 1, 3)))
		}
		left := slices.Clone(c)
		var want [][]int
		enough := true
		for _, p := range l {
			var coils []int
			for range p.Count {
				n := 0
				for n < len(left) && (left[n].Gauge != p.Gauge || left[n].Length < p.Length) {
					n++
				}
				if n == len(left) {
					enough = false
					break
				}
				left[n].Length -= p.Length
				coils = append(coils, n)
			}
			want = append(want, coils)
		}
		cuts, e := restore.CutFirst(c, l)
		if !enough {
			if e != api.ErrStock || len(cuts) > 0 {
				t.Fatal(c, l, cuts, e)
			}
			continue
		}
		if e != api.OK || !equalCuts(cuts, want) {
			t.Fatal(c, l, cuts, e, want)
		}
		lengths, e := restore.CheckCuts(c, l, cuts)
		wantErr(t, "CheckCuts", e, api.OK)
		for kind, p := range l {
			for _, n := range cuts[kind] {
				lengths[n] += p.Length
			}
		}
		for n := range c {
			if lengths[n] != c[n].Length {
				t.Fatal(c, l, cuts, lengths)
			}
		}
	}
}
