package action_test

import (
	"math"
	"math/big"
	"testing"

	"agraffe/action"
	"agraffe/api"
)

// P4.7: the examples, ratios below 0, and leads on both sides.
func TestTouch(t *testing.T) {
	leaded := changed(upright(), func(a *api.Action) { a.Leads = []api.Lead{{Weight: 140, Place: 500}} })
	both := changed(leaded, func(a *api.Action) {
		a.Leads = append(a.Leads, api.Lead{Weight: 7, Place: -3}, api.Lead{Weight: 5000, Place: 0})
	})
	for _, c := range []struct {
		what              string
		a                 api.Action
		dip               api.Frac
		balance, down, up api.Frac
	}{
		{"the example", upright(), frac(0, 1), frac(200, 1), frac(260, 1), frac(140, 1)},
		{"behind let-off", upright(), frac(900, 1), frac(-10, 1), frac(20, 1), frac(-40, 1)},
		{"just before let-off", upright(), frac(8999, 10), frac(200, 1), frac(260, 1), frac(140, 1)},
		{"at the full dip", upright(), frac(1000, 1), frac(0, 1), frac(0, 1), frac(0, 1)},
		{"with a lead", leaded, frac(0, 1), frac(130, 1), frac(190, 1), frac(70, 1)},
		{"a lead at the full dip", leaded, frac(1000, 1), frac(-70, 1), frac(-70, 1), frac(-70, 1)},
		{"leads on both sides", both, frac(0, 1), frac(130021, 1000), frac(190021, 1000), frac(70021, 1000)},
		{"nothing", api.Action{Dip: 5}, frac(1, 2), frac(0, 1), frac(0, 1), frac(0, 1)},
		{"fine dips", upright(), frac(1, 1000000000), frac(200, 1), frac(260, 1), frac(140, 1)},
	} {
		if b, e := action.Balance(c.a, c.dip); b != c.balance || e != api.OK {
			t.Errorf("Balance: %s: %v, error %d, want %v", c.what, b, e, c.balance)
		}
		if w, e := action.Touch(c.a, c.dip); w != [2]api.Frac{c.down, c.up} || e != api.OK {
			t.Errorf("Touch: %s: %v, error %d, want %v, %v", c.what, w, e, c.down, c.up)
		}
	}
}

// weighted is the oblique action with weights and frictions of its parts.
func weighted(weights, frictions [6]int, leads ...api.Lead) api.Action {
	a := oblique()
	for i := range a.Parts {
		a.Parts[i].Weight, a.Parts[i].Friction = weights[i], frictions[i]
	}
	a.Leads = leads
	return a
}

// P4.7: ErrLarge of ratios, products, sums, leads, friction and what is made of them.
func TestTouchTooLarge(t *testing.T) {
	none := [6]int{}
	for _, c := range []struct {
		what           string
		a              api.Action
		balance, touch api.Errno
	}{
		{"a ratio", tooLarge(), api.ErrLarge, api.ErrLarge},
		{"a great ratio alone", weighted([6]int{2: 1}, none), api.OK, api.OK},
		{"a product", weighted([6]int{2: 2}, none), api.ErrLarge, api.ErrLarge},
		{"a sum", weighted([6]int{2: 1, 5: 1}, none), api.ErrLarge, api.ErrLarge},
		{"a sum with a small number", weighted([6]int{2: 1, 3: 1}, none), api.ErrLarge, api.ErrLarge},
		{"a lead of 1 less", weighted([6]int{2: 1}, none, api.Lead{Weight: 1, Place: 1000}), api.OK, api.OK},
		{"a lead of 3 less", weighted([6]int{2: 1}, none, api.Lead{Weight: 3, Place: 1000}), api.ErrLarge, api.ErrLarge},
		{"a lead that is fine", weighted([6]int{2: 1}, none, api.Lead{Weight: 1, Place: 1}), api.ErrLarge, api.ErrLarge},
		{"leads there and back", weighted([6]int{2: 1}, none, api.Lead{Weight: 3, Place: 1000}, api.Lead{Weight: 3, Place: -1000}), api.ErrLarge, api.ErrLarge},
		{"leads one by one", weighted([6]int{2: 1}, none, api.Lead{Weight: 1, Place: 1000}, api.Lead{Weight: 1, Place: -1000}), api.OK, api.OK},
		{"a product of friction", weighted(none, [6]int{2: 2}), api.OK, api.ErrLarge},
		{"a sum of frictions", weighted(none, [6]int{2: 1, 5: 1}), api.OK, api.ErrLarge},
		{"friction and balance cancel in one of both", weighted([6]int{2: 1}, [6]int{2: 1}), api.OK, api.ErrLarge},
		{"friction and balance", weighted([6]int{2: 1}, [6]int{5: 1}), api.OK, api.ErrLarge},
	} {
		b, e := action.Balance(c.a, frac(0, 1))
		wantErr(t, "Balance: "+c.what, e, c.balance)
		w, e := action.Touch(c.a, frac(0, 1))
		wantErr(t, "Touch: "+c.what, e, c.touch)
		wantErr(t, "CheckTouch: "+c.what, action.CheckTouch(c.a, api.TouchWindow{Down: 100000, Up: -100000}, frac(0, 1)), c.touch)
		l, e := action.ChooseLeads(c.a, nil, api.TouchWindow{Down: 100000, Up: -100000})
		wantErr(t, "ChooseLeads: "+c.what, e, c.touch)
		if c.balance != api.OK && !isZero(b) || c.touch != api.OK && (w != [2]api.Frac{} || len(l) > 0) {
			t.Error("beside an error:", c.what, b, w, l)
		}
	}
	if b, e := action.Balance(tooLarge(), frac(1, 1)); e != api.ErrLarge || !isZero(b) {
		t.Error("Balance at the full dip:", b, e)
	}
}

// P4.7: windows and their ends, errors in order.
func TestCheckTouch(t *testing.T) {
	window := func(down, up int) api.TouchWindow { return api.TouchWindow{Down: down, Up: up} }
	third := changed(upright(), func(a *api.Action) { a.Leads = []api.Lead{{Weight: 1, Place: 1}} }) // down 259.999, up 139.999
	for _, c := range []struct {
		what string
		a    api.Action
		w    api.TouchWindow
		dip  api.Frac
		want api.Errno
	}{
		{"both ends", upright(), window(260, 140), frac(0, 1), api.OK},
		{"wide", upright(), window(100000, -100000), frac(0, 1), api.OK},
		{"too heavy", upright(), window(259, 140), frac(0, 1), api.ErrBreak},
		{"too slow", upright(), window(260, 141), frac(0, 1), api.ErrBreak},
		{"both", upright(), window(259, 141), frac(0, 1), api.ErrBreak},
		{"a little less", third, window(260, 139), frac(0, 1), api.OK},
		{"a little less down", third, window(259, 139), frac(0, 1), api.ErrBreak},
		{"a little less up", third, window(260, 140), frac(0, 1), api.ErrBreak},
		{"numbers below 0", upright(), window(20, -40), frac(900, 1), api.OK},
		{"numbers below 0, too slow", upright(), window(20, -39), frac(900, 1), api.ErrBreak},
		{"a window the wrong way", upright(), window(100, 200), frac(0, 1), api.ErrBreak},
		{"too great a number", upright(), window(100001, 0), frac(0, 1), api.ErrRange},
		{"too small a number", upright(), window(-100001, 0), frac(0, 1), api.ErrRange},
		{"too great a number up", upright(), window(260, 100001), frac(0, 1), api.ErrRange},
		{"too small a number up", upright(), window(260, -100001), frac(0, 1), api.ErrRange},
		{"the least int", upright(), window(260, math.MinInt), frac(0, 1), api.ErrRange},
		{"the window ahead of the dip", upright(), window(100001, 0), frac(2, 4), api.ErrRange},
		{"the window ahead of what is large", tooLarge(), window(100001, 0), frac(0, 1), api.ErrRange},
		{"the dip ahead of what is large", tooLarge(), window(0, 0), frac(2, 4), api.ErrForm},
		{"what is large", tooLarge(), window(0, 0), frac(0, 1), api.ErrLarge},
	} {
		wantErr(t, c.what, action.CheckTouch(c.a, c.w, c.dip), c.want)
	}
}

// sums are the chapter's balance and friction, with big numbers; l notes what is large in the balance, m in the friction.
func sums(a api.Action, dip api.Frac, l, m *ledger) (balance, friction *big.Rat) {
	balance, friction = whole(0), whole(0)
	for _, p := range a.Parts {
		s, e := action.Ratio(a, p.Name, dip)
		if e != api.OK {
			l.large = true
			return whole(0), whole(0)
		}
		balance = l.sum(balance, l.product(whole(p.Weight), ratOf(s)))
		friction = m.sum(friction, m.product(whole(p.Friction), new(big.Rat).Abs(ratOf(s))))
	}
	for _, x := range a.Leads {
		pull := l.quotient(l.product(whole(x.Weight), whole(x.Place)), whole(1000))
		balance = l.difference(balance, pull)
	}
	return balance, friction
}

// P4.7, P4.12: balances and touches, with big numbers; the balance is the middle of the two weights; a lead at a place
// above 0 makes both lesser.
func TestTouchAtRandom(t *testing.T) {
	r := dice()
	count := map[api.Errno]int{}
	for range 3000 {
		a := randomAction(r, []int{10, 100, 10000}[r.IntN(3)])
		dip := reduced(from(r, 0, 10*a.Dip), 10)
		l, m := ledger{}, ledger{}
		balance, friction := sums(a, dip, &l, &m)
		want, err := l.result(balance)
		if b, e := action.Balance(a, dip); b != want || e != err {
			t.Fatal(a, dip, b, e, want, err)
		}
		down, up := l.sum(balance, friction), l.difference(balance, friction)
		l.large = l.large || m.large
		wanted := [2]api.Frac{}
		wanted[0], err = l.result(down)
		wanted[1], _ = l.result(up)
		w, e := action.Touch(a, dip)
		if w != wanted || e != err {
			t.Fatal(a, dip, w, e, wanted, err)
		}
		count[e]++
		if e != api.OK {
			continue
		}
		window := api.TouchWindow{Down: w[0].Num/w[0].Den + from(r, -1, 1), Up: w[1].Num/w[1].Den + from(r, -1, 1)}
		err = api.OK
		switch {
		case max(window.Down, -window.Down, window.Up, -window.Up) > 100000:
			err = api.ErrRange
		case down.Cmp(whole(window.Down)) > 0 || up.Cmp(whole(window.Up)) < 0:
			err = api.ErrBreak
		}
		wantErr(t, "CheckTouch", action.CheckTouch(a, window, dip), err)
		if middle := new(big.Rat).Quo(new(big.Rat).Add(ratOf(w[0]), ratOf(w[1])), whole(2)); middle.Cmp(balance) != 0 {
			t.Fatal(a, dip, w, balance)
		}
		a.Leads = append(a.Leads, api.Lead{Weight: from(r, 1, 5000), Place: from(r, 1, 1000)})
		if less, e := action.Touch(a, dip); e == api.OK && (ratOf(less[0]).Cmp(down) >= 0 || ratOf(less[1]).Cmp(up) >= 0) {
			t.Fatal(a, dip, w, less)
		}
	}
	if count[api.OK] < 1000 || count[api.ErrLarge] < 100 {
		t.Error(count)
	}
}
