package action_test

import (
	"math"
	"math/big"
	"math/rand/v2"
	"slices"
	"strconv"
	"testing"

	"agraffe/action"
	"agraffe/api"
)

// extremes are the numbers at which arithmetic with ints goes wrong first.
var extremes = []int{math.MinInt, math.MinInt + 1, -1000000001, -1000000000, -10001, -1, 0, 1, 2, 1000, 2001, 100001, 1000000000, 1000000001, math.MaxInt - 1, math.MaxInt}

// dice are the same ones in each run.
func dice() *rand.Rand {
	return rand.New(rand.NewPCG(9, 10))
}

func from(r *rand.Rand, low, high int) int {
	return low + r.IntN(high-low+1)
}

func frac(num, den int) api.Frac {
	return api.Frac{Num: num, Den: den}
}

// curve has corners with whole numbers.
func curve(l ...int) api.Curve {
	var c api.Curve
	for pair := range slices.Chunk(l, 2) {
		c.Corners = append(c.Corners, api.Knee{X: frac(pair[0], 1), Y: frac(pair[1], 1)})
	}
	return c
}

// broken is a curve whose corners have fractions.
func broken(l ...api.Frac) api.Curve {
	var c api.Curve
	for pair := range slices.Chunk(l, 2) {
		c.Corners = append(c.Corners, api.Knee{X: pair[0], Y: pair[1]})
	}
	return c
}

// stairs is a curve with so many corners, which rises on each second stretch.
func stairs(count int) api.Curve {
	var l []int
	for i := range count {
		l = append(l, i, i/2)
	}
	return curve(l...)
}

func equalCurves(a, b api.Curve) bool {
	return slices.Equal(a.Corners, b.Corners)
}

func isNoCurve(c api.Curve) bool {
	return len(c.Corners) == 0
}

// upright is the action of the chapter's examples.
func upright() api.Action {
	return api.Action{
		Dip: 1000,
		Parts: []api.ActionPart{
			{Name: "wippen", Curve: curve(0, 0, 1000, 500), Weight: 100, Friction: 20},
			{Name: "hammer", Driver: "wippen", Curve: curve(0, 0, 450, 4500, 500, 4300), Weight: 30, Friction: 10},
		},
		Events: []api.ActionEvent{
			{Name: "lift", Part: "wippen", Level: 1},
			{Name: "let-off", Part: "hammer", Level: 4500},
			{Name: "drop", Part: "hammer", Level: 4600},
		},
	}
}

// oblique has two chains of three parts, a to c and d to f, whose slopes are made of primes: the last ones have ratios
// whose numerators and denominators are just small, 936256169/951629521 and 933116228/963083437.
func oblique() api.Action {
	return api.Action{
		Dip: 2000,
		Parts: []api.ActionPart{
			{Name: "a", Curve: curve(0, 0, 997, 991)},
			{Name: "b", Driver: "a", Curve: curve(0, 0, 983, 977)},
			{Name: "c", Driver: "b", Curve: curve(0, 0, 971, 967)},
			{Name: "d", Curve: curve(0, 0, 1009, 997)},
			{Name: "e", Driver: "d", Curve: curve(0, 0, 983, 979)},
			{Name: "f", Driver: "e", Curve: curve(0, 0, 971, 956)},
		},
		Events: []api.ActionEvent{
			{Name: "start", Part: "c", Level: 0},
			{Name: "one", Part: "c", Level: 1},
			{Name: "two", Part: "b", Level: 1},
			{Name: "three", Part: "f", Level: 1},
		},
	}
}

// tooLarge has a part, h, whose curve has numbers that are not small, and an event of it between two others.
func tooLarge() api.Action {
	return api.Action{
		Dip: 1,
		Parts: []api.ActionPart{
			{Name: "f", Curve: curve(0, 0, 9973, 9967)},
			{Name: "g", Driver: "f", Curve: curve(0, 0, 9973, 9967)},
			{Name: "h", Driver: "g", Curve: curve(0, 0, 9973, 9967)},
		},
		Events: []api.ActionEvent{{Name: "first", Part: "g"}, {Name: "wrong", Part: "h"}, {Name: "never", Part: "g", Level: 2}},
	}
}

// changed returns an action that is like another one but for what change does.
func changed(a api.Action, change func(a *api.Action)) api.Action {
	change(&a)
	return a
}

// badActions have each an error of its own; the functions with actions return it ahead of all others.
func badActions() map[api.Errno]api.Action {
	return map[api.Errno]api.Action{
		api.ErrRange:   changed(upright(), func(a *api.Action) { a.Dip = 0 }),
		api.ErrLarge:   changed(upright(), func(a *api.Action) { a.Parts = make([]api.ActionPart, 13) }),
		api.ErrName:    changed(upright(), func(a *api.Action) { a.Parts[0].Name = "" }),
		api.ErrExists:  changed(upright(), func(a *api.Action) { a.Events[1].Name = "lift" }),
		api.ErrMissing: changed(upright(), func(a *api.Action) { a.Events[1].Part = "jack" }),
		api.ErrShape:   changed(upright(), func(a *api.Action) { a.Parts[1].Curve = api.Curve{} }),
		api.ErrForm:    changed(upright(), func(a *api.Action) { a.Parts[1].Curve = broken(frac(1, 2), frac(1, 1)) }),
		api.ErrOrder:   changed(upright(), func(a *api.Action) { a.Parts[1].Curve = curve(1, 1, 1, 2) }),
	}
}

func ratOf(f api.Frac) *big.Rat {
	return big.NewRat(int64(f.Num), int64(f.Den))
}

func whole(n int) *big.Rat {
	return big.NewRat(int64(n), 1)
}

// ledger calculates with numbers of any size, and notes if one of them is not small.
type ledger struct{ large bool }

func (l *ledger) noted(r *big.Rat) *big.Rat {
	most := big.NewInt(api.MaxPart)
	l.large = l.large || r.Num().CmpAbs(most) > 0 || r.Denom().Cmp(most) > 0
	return r
}

func (l *ledger) sum(a, b *big.Rat) *big.Rat {
	return l.noted(new(big.Rat).Add(a, b))
}

func (l *ledger) difference(a, b *big.Rat) *big.Rat {
	return l.noted(new(big.Rat).Sub(a, b))
}

func (l *ledger) product(a, b *big.Rat) *big.Rat {
	return l.noted(new(big.Rat).Mul(a, b))
}

func (l *ledger) quotient(a, b *big.Rat) *big.Rat {
	return l.noted(new(big.Rat).Quo(a, b))
}

func (l *ledger) slope(a, b api.Knee) *big.Rat {
	return l.quotient(l.difference(ratOf(b.Y), ratOf(a.Y)), l.difference(ratOf(b.X), ratOf(a.X)))
}

func (l *ledger) crossing(a, b api.Knee, height api.Frac) *big.Rat {
	return l.sum(l.quotient(l.difference(ratOf(height), ratOf(a.Y)), l.slope(a, b)), ratOf(a.X))
}

// value is written from the end of the curve on, apart from the program's own search.
func (l *ledger) value(c api.Curve, x *big.Rat) *big.Rat {
	for i := len(c.Corners) - 1; i >= 0; i-- {
		k := c.Corners[i]
		if ratOf(k.X).Cmp(x) > 0 {
			continue
		}
		if i == len(c.Corners)-1 {
			return ratOf(k.Y)
		}
		return l.sum(l.product(l.difference(x, ratOf(k.X)), l.slope(k, c.Corners[i+1])), ratOf(k.Y))
	}
	return ratOf(c.Corners[0].Y)
}

// result is what a function has to return for a number that a ledger calculated.
func (l *ledger) result(r *big.Rat) (api.Frac, api.Errno) {
	if l.large {
		return api.Frac{}, api.ErrLarge
	}
	return frac(int(r.Num().Int64()), int(r.Denom().Int64())), api.OK
}

// randomFrac has parts of few digits or many.
func randomFrac(r *rand.Rand) api.Frac {
	most := []int{3, 30, 3000, 1000000000}[r.IntN(4)]
	l := ledger{}
	f, _ := l.result(big.NewRat(int64(from(r, -most, most)), int64(from(r, 1, most))))
	return f
}

// randomCurve has corners with whole numbers up to most in size, and, if den is greater than 1, with fractions.
// It goes up and down, and often stays at a height.
func randomCurve(r *rand.Rand, count, most, den int) api.Curve {
	var l []*big.Rat
	for range count {
		l = append(l, big.NewRat(int64(from(r, -most, most)), int64(from(r, 1, den))))
	}
	slices.SortFunc(l, (*big.Rat).Cmp)
	l = slices.CompactFunc(l, func(a, b *big.Rat) bool { return a.Cmp(b) == 0 })
	var c api.Curve
	y := frac(0, 1)
	for i, x := range l {
		if i == 0 || r.IntN(4) > 0 {
			y, _ = new(ledger).result(big.NewRat(int64(from(r, -most, most)), int64(from(r, 1, den))))
		}
		k := api.Knee{Y: y}
		k.X, _ = new(ledger).result(x)
		c.Corners = append(c.Corners, k)
	}
	return c
}

// someCurve is a curve of some kind that is right.
func someCurve(r *rand.Rand) api.Curve {
	for {
		c := randomCurve(r, from(r, 1, 8), []int{5, 40, 10000}[r.IntN(3)], []int{1, 1, 4, 60, 900}[r.IntN(5)])
		if action.CheckCurve(c) == api.OK {
			return c
		}
	}
}

// randomAction has parts that drive each other, with numbers that are up to most in size.
func randomAction(r *rand.Rand, most int) api.Action {
	a := api.Action{Dip: from(r, 1, min(most, 2000))}
	for n := range from(r, 1, 5) {
		p := api.ActionPart{Name: "p" + strconv.Itoa(n), Curve: randomCurve(r, from(r, 1, 5), most, 1), Weight: from(r, 0, most), Friction: from(r, 0, most)}
		if n > 0 && r.IntN(3) > 0 {
			p.Driver = a.Parts[r.IntN(n)].Name
		}
		a.Parts = append(a.Parts, p)
	}
	for n := range r.IntN(8) {
		part := a.Parts[r.IntN(len(a.Parts))].Name
		a.Events = append(a.Events, api.ActionEvent{Name: "e" + strconv.Itoa(n), Part: part, Level: from(r, -most, most), Falling: r.IntN(2) == 0})
	}
	a.Leads = randomLeads(r, r.IntN(5))
	return a
}

func randomLeads(r *rand.Rand, count int) []api.Lead {
	var l []api.Lead
	for range count {
		l = append(l, api.Lead{Weight: from(r, 1, []int{10, 5000}[r.IntN(2)]), Place: from(r, -3, 3) * []int{1, 7, 100, 250}[r.IntN(4)]})
	}
	return l
}

func wantErr(t *testing.T, what string, got, want api.Errno) {
	t.Helper()
	if got != want {
		t.Errorf("%s: error %d, want %d", what, got, want)
	}
}
