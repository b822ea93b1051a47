package temper_test

import (
	"math"
	"math/big"
	"math/rand/v2"
	"slices"
	"testing"

	"agraffe/api"
	"agraffe/temper"
)

// extremes are the numbers at which arithmetic with ints goes wrong first.
var extremes = []int{math.MinInt, math.MinInt + 1, -1000000000000001, -49, -48, -12, -1, 0, 1, 2, 7, 11, 12, 16, 17, 48, 49, 87, 88, 1000000, 1000001, math.MaxInt - 1, math.MaxInt}

var names = []string{"equal", "pythagoras", "meantone", "werckmeister", "kirnberger", "vallotti", "young"}

// dice are the same ones in each run.
func dice() *rand.Rand {
	return rand.New(rand.NewPCG(13, 14))
}

func from(r *rand.Rand, low, high int) int {
	return low + r.IntN(high-low+1)
}

func pitch(two, three, five, den int) api.Pitch {
	return api.Pitch{Two: two, Three: three, Five: five, Den: den}
}

func span(low, high int) api.Range {
	return api.Range{Lo: low, Hi: high}
}

func beat(low, high, p, q int) api.BeatTest {
	return api.BeatTest{Low: low, High: high, P: p, Q: q}
}

func step(from, to int) api.TuneStep {
	return api.TuneStep{From: from, To: to}
}

func named(t *testing.T, name string) api.Temperament {
	t.Helper()
	x, e := temper.Named(name)
	if e != api.OK {
		t.Fatalf("%s: error %d", name, e)
	}
	return x
}

// changed returns a temperament that is like another one but for what change does.
func changed(t api.Temperament, change func(t *api.Temperament)) api.Temperament {
	change(&t)
	return t
}

func wantErr(t *testing.T, what string, got, want api.Errno) {
	t.Helper()
	if got != want {
		t.Errorf("%s: error %d, want %d", what, got, want)
	}
}

// utmost has a class 9 that is lower than its class 0 by as many twelfths of octaves as a spread may have.
func utmost() api.Temperament {
	return api.Temperament{
		Name: "utmost",
		Pyth: [12]int{-9, -12, -15, 15, -7, 3, 9, 5, 7, 2, 8, 6},
		Synt: [12]int{27, 35, 46, -42, 20, -4, -19, -10, -16, 1, -22, -16},
	}
}

// spread300 and those behind it have a spread of just so much in the first or the second exponent, and no more in the
// other ones. (Twelve fifths cannot bring the third one above 6 times 48.)
func spread300() []api.Temperament {
	return []api.Temperament{
		{Name: "two", Pyth: [12]int{13, -4, 9, -9, 8, -8, 11, -2, 4, 0, 0, -10}, Synt: [12]int{9, -14, -19, -7, 0, 8, 13, -5, -8, 11, 12, 0}},
		{Name: "three", Pyth: [12]int{3, 0, 2, 1, 6, -4, -3, 2, -1, 1, 4, 1}, Synt: [12]int{24, -9, -25, -30, 31, 15, -5, 17, 32, -33, -39, 22}},
		utmost(),
	}
}

// spread301 is in the first exponent alone, spread304 in the second one alone, where all numbers go by fours.
func spread301() api.Temperament {
	return api.Temperament{Name: "wide", Pyth: [12]int{-4, -7, 3, 8, 8, -2, 3, -4, -4, 2, 2, 7}, Synt: [12]int{2, 5, 3, 2, -8, 7, -5, -6, -12, 3, 2, 7}}
}

func spread304() api.Temperament {
	return api.Temperament{Name: "wide", Pyth: [12]int{5, 3, 1, 5, -3, 4, 3, -4, -1, 2, 1, -4}, Synt: [12]int{15, -12, -22, -3, -29, 11, 14, -6, 32, 28, -13, -15}}
}

// turnsWide is right, but not if it is rotated by 1.
func turnsWide() api.Temperament {
	return api.Temperament{Name: "turns", Pyth: [12]int{6, 5, -4, 0, 4, 6, -4, -4, 4, -5, 4, 0}, Synt: [12]int{-3, -21, 21, -24, 7, 21, 21, -24, -15, 5, 8, 4}}
}

// badTemperaments have each an error of its own; the functions with temperaments return it ahead of all others.
func badTemperaments() map[api.Errno]api.Temperament {
	return map[api.Errno]api.Temperament{
		api.ErrName:  changed(utmost(), func(t *api.Temperament) { t.Name = "" }),
		api.ErrRange: changed(utmost(), func(t *api.Temperament) { t.Synt[11] = 49 }),
		api.ErrOpen:  changed(utmost(), func(t *api.Temperament) { t.Pyth[0]++ }),
		api.ErrLarge: spread301(),
	}
}

// summedTo brings the sum of numbers from -48 to 48 to a total.
func summedTo(r *rand.Rand, l [12]int, total int) [12]int {
	for _, n := range l {
		total -= n
	}
	for total != 0 {
		by := 1
		if total < 0 {
			by = -1
		}
		if i := r.IntN(12); l[i]+by >= -48 && l[i]+by <= 48 {
			l[i] += by
			total -= by
		}
	}
	return l
}

// randomTemperament closes its circle, and has commas that often outweigh each other, so that its fifths may differ
// much without too great a spread.
func randomTemperament(r *rand.Rand) api.Temperament {
	for {
		t := api.Temperament{Name: "any"}
		pyth, synt := r.IntN(8), r.IntN(49)
		outweighed := r.IntN(3) > 0
		for i := range 12 {
			t.Synt[i] = from(r, -synt, synt)
			t.Pyth[i] = from(r, -pyth, pyth)
			if outweighed {
				t.Pyth[i] = 1 - t.Synt[i]/3 + from(r, -1, 1)
			}
		}
		t.Pyth, t.Synt = summedTo(r, t.Pyth, 12), summedTo(r, t.Synt, 0)
		if s := spreadOf(t); slices.Max(s[:]) <= 300 {
			return t
		}
	}
}

// someTemperaments are the named ones, those at the limits, and random ones.
func someTemperaments(t *testing.T, r *rand.Rand, count int) []api.Temperament {
	t.Helper()
	l := append(spread300(), turnsWide())
	for _, name := range names {
		l = append(l, named(t, name))
	}
	for range count {
		l = append(l, randomTemperament(r))
	}
	return l
}

// ratioOf returns exponents in twelfths: those of a fifth as the chapter gives them.
func ratioOf(t api.Temperament, i int) [3]int {
	return [3]int{-12 + 19*t.Pyth[i] + 4*t.Synt[i], 12 - 12*t.Pyth[i] - 4*t.Synt[i], t.Synt[i]}
}

// overC returns the exponents of a class, found by going round the circle from C on.
func overC(t api.Temperament, class int) [3]int {
	var x [3]int
	at, notes := 0, 0
	for i := 0; at != class; i++ {
		for n, by := range ratioOf(t, i) {
			x[n] += by
		}
		notes += 7
		at = notes % 12
	}
	x[0] -= 12 * (notes / 12)
	return x
}

func spreadOf(t api.Temperament) [3]int {
	var spread [3]int
	for a := range 12 {
		for b := range 12 {
			for n, x := range quotient(overC(t, a), overC(t, b)) {
				spread[n] = max(spread[n], x)
			}
		}
	}
	return spread
}

func quotient(a, b [3]int) [3]int {
	return [3]int{a[0] - b[0], a[1] - b[1], a[2] - b[2]}
}

// between returns the exponents of the pitch of high over low. From the note 3 on, which is a C, it counts in octaves.
func between(t api.Temperament, low, high int) [3]int {
	over := func(note int) [3]int {
		octaves := 0
		for ; note < 3; note += 12 {
			octaves--
		}
		for ; note >= 15; note -= 12 {
			octaves++
		}
		x := overC(t, note-3)
		x[0] += 12 * octaves
		return x
	}
	return quotient(over(high), over(low))
}

// normalOf returns the pitch with exponents in twelfths.
func normalOf(x [3]int) api.Pitch {
	for _, d := range []int{12, 6, 4, 3, 2} {
		if x[0]%d == 0 && x[1]%d == 0 && x[2]%d == 0 {
			return pitch(x[0]/d, x[1]/d, x[2]/d, 12/d)
		}
	}
	return pitch(x[0], x[1], x[2], 12)
}

// powers returns the numerator and the denominator of 2^x[0] 3^x[1] 5^x[2].
func powers(x [3]int) (*big.Int, *big.Int) {
	over, under := big.NewInt(1), big.NewInt(1)
	for n, prime := range []int64{2, 3, 5} {
		power := new(big.Int).Exp(big.NewInt(prime), big.NewInt(int64(max(x[n], -x[n]))), nil)
		if x[n] > 0 {
			over.Mul(over, power)
		} else {
			under.Mul(under, power)
		}
	}
	return over, under
}

// sign tells on which side of 1 the pitch with exponents lies.
func sign(x [3]int) int {
	over, under := powers(x)
	return over.Cmp(under)
}

// beyond tells on which side of a fraction the pitch with exponents in twelfths lies.
func beyond(x [3]int, num, den int) int {
	over, under := powers(x)
	twelfth := func(n int) *big.Int { return new(big.Int).Exp(big.NewInt(int64(n)), big.NewInt(12), nil) }
	return over.Mul(over, twelfth(den)).Cmp(under.Mul(under, twelfth(num)))
}

// enclosed returns times multiplied by the pitch with exponents in twelfths, rounded down and up.
func enclosed(x [3]int, times int) api.Range {
	least, above := 0, 1<<50
	for above-least > 1 {
		middle := (least + above) / 2
		if beyond(x, middle, times) >= 0 {
			least = middle
		} else {
			above = middle
		}
	}
	if least > 0 && beyond(x, least, times) == 0 {
		return span(least, least)
	}
	return span(least, above)
}
