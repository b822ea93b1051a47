package number_test

import (
	"math"
	"math/big"
	"math/rand/v2"
	"testing"

	"agraffe/api"
	"agraffe/number"
)

func dots(coordinates ...int) []api.Dot {
	var l []api.Dot
	for i := 0; i+1 < len(coordinates); i += 2 {
		l = append(l, api.Dot{X: coordinates[i], Y: coordinates[i+1]})
	}
	return l
}

func row(n int) []api.Dot {
	var l []api.Dot
	for i := range n {
		l = append(l, api.Dot{X: i, Y: i * i % 7})
	}
	return l
}

// The errors of dots are the same ones for Line and CheckLine, ahead of all those of the line.
func TestErrorsOfDots(t *testing.T) {
	for _, c := range []struct {
		name string
		l    []api.Dot
		want api.Errno
	}{
		{"nil", nil, api.ErrShape},
		{"none", []api.Dot{}, api.ErrShape},
		{"two", dots(0, 0, 1, 1), api.ErrShape},
		{"61", row(61), api.ErrShape},
		{"two wrong ones", dots(0, 20000, 0, 0), api.ErrShape},
		{"60", row(60), api.OK},
		{"the greatest", dots(-10000, -10000, 0, 10000, 10000, -10000), api.OK},
		{"X too great", dots(0, 0, 1, 1, 10001, 1), api.ErrRange},
		{"X too small", dots(-10001, 0, 1, 1, 2, 1), api.ErrRange},
		{"Y too great", dots(0, 0, 1, 10001, 2, 1), api.ErrRange},
		{"Y too small", dots(0, -10001, 1, 1, 2, 1), api.ErrRange},
		{"the least X", dots(math.MinInt, 0, 1, 1, 2, 1), api.ErrRange},
		{"the least Y", dots(0, 0, 1, math.MinInt, 2, 1), api.ErrRange},
		{"the same X", dots(0, 0, 1, 1, 1, 2), api.ErrOrder},
		{"X falls", dots(0, 0, 2, 1, 1, 2), api.ErrOrder},
		{"the size before the order", dots(0, 0, 1, 1, 1, 10001), api.ErrRange},
		{"the first dot decides", dots(0, 0, 0, 1, 1, 10001), api.ErrOrder},
	} {
		line, e := number.Line(c.l)
		wantErr(t, "Line: "+c.name, e, c.want)
		if e != api.OK {
			if line != (api.Trend{}) {
				t.Error(c.name, line)
			}
			wantErr(t, "CheckLine: "+c.name, number.CheckLine(c.l, api.Trend{}), c.want)
			continue
		}
		wantErr(t, "CheckLine: "+c.name, number.CheckLine(c.l, line), api.OK)
	}
}

// Which three dots prove a line is not said where several do: CheckLine looks at them.
func TestLine(t *testing.T) {
	for _, c := range []struct {
		l                   []api.Dot
		start, slope, error api.Frac
	}{
		{dots(0, 0, 1, 1, 2, 0), frac(1, 2), frac(0, 1), frac(1, 2)},
		{dots(0, 0, 1, -1, 2, 0), frac(-1, 2), frac(0, 1), frac(1, 2)},
		{dots(1, 5, 2, 7, 3, 10), frac(9, 4), frac(5, 2), frac(1, 4)},
		{dots(0, 0, 1, 5, 2, 0, 3, 0), frac(5, 2), frac(0, 1), frac(5, 2)},
		{dots(0, 0, 1, 0, 3, 6, 4, 0), frac(3, 1), frac(0, 1), frac(3, 1)},
		{dots(0, 1, 1, 3, 2, 5), frac(1, 1), frac(2, 1), frac(0, 1)},
		{dots(-3, 7, 0, 7, 1, 7, 9, 7), frac(7, 1), frac(0, 1), frac(0, 1)},
		{dots(-10000, 10000, 0, 0, 10000, -10000), frac(0, 1), frac(-1, 1), frac(0, 1)},
		{dots(9998, -10000, 9999, 10000, 10000, -10000), frac(0, 1), frac(0, 1), frac(10000, 1)},
		{dots(-10000, 0, -9999, 10000, 10000, 0), frac(5000, 1), frac(0, 1), frac(5000, 1)},
		{dots(-10000, -10000, 0, 0, 10000, 9999), frac(-1, 4), frac(19999, 20000), frac(1, 4)},
		{dots(9998, 10000, 9999, -10000, 10000, -10000), frac(99985000, 1), frac(-10000, 1), frac(5000, 1)},
		{dots(-10000, 10000, 9998, -9999, 10000, 10000), frac(1, 2), frac(0, 1), frac(19999, 2)},
	} {
		got, e := number.Line(c.l)
		if e != api.OK || got.Start != c.start || got.Slope != c.slope || got.Error != c.error {
			t.Errorf("Line of %v: %v, %d, want %v, %v, %v", c.l, got, e, c.start, c.slope, c.error)
		}
		wantErr(t, "CheckLine", number.CheckLine(c.l, got), api.OK)
	}
}

func randomDots(r *rand.Rand, n, size int) []api.Dot {
	var l []api.Dot
	x := -size
	for i := range n {
		x = from(r, x+1, x+max(1, 2*size/n))
		l = append(l, api.Dot{X: min(x, 10000-n+i), Y: from(r, -size, size)})
		x = l[i].X
	}
	return l
}

// greatestError is the greatest error of a line in size.
func greatestError(l []api.Dot, start, slope *big.Rat) *big.Rat {
	greatest := new(big.Rat)
	for _, d := range l {
		height := new(big.Rat).Mul(slope, big.NewRat(int64(d.X), 1))
		height.Add(height, start)
		height.Sub(height, big.NewRat(int64(d.Y), 1))
		if height.Abs(height).Cmp(greatest) > 0 {
			greatest = height
		}
	}
	return greatest
}

// The best line is parallel to a line through two dots, and halfway between the dots above and below it: all such lines are tried.
func leastGreatestError(l []api.Dot) *big.Rat {
	var least *big.Rat
	for i, a := range l {
		for _, c := range l[i+1:] {
			slope := big.NewRat(int64(c.Y-a.Y), int64(c.X-a.X))
			var low, high *big.Rat
			for _, d := range l {
				start := new(big.Rat).Mul(slope, big.NewRat(int64(d.X), 1))
				start.Sub(big.NewRat(int64(d.Y), 1), start)
				if low == nil || start.Cmp(low) < 0 {
					low = start
				}
				if high == nil || start.Cmp(high) > 0 {
					high = start
				}
			}
			half := new(big.Rat).Sub(high, low)
			half.Mul(half, big.NewRat(1, 2))
			if least == nil || half.Cmp(least) < 0 {
				least = half
			}
		}
	}
	return least
}

func TestLineAgainstAllSlopes(t *testing.T) {
	r := dice()
	for i := range 400 {
		l := randomDots(r, 3+i%10, []int{12, 100, 10000}[i%3])
		got, e := number.Line(l)
		least := leastGreatestError(l)
		if e != api.OK || ratOf(got.Error).Cmp(least) != 0 || greatestError(l, ratOf(got.Start), ratOf(got.Slope)).Cmp(least) != 0 {
			t.Fatal(l, got, e, least)
		}
		wantErr(t, "CheckLine", number.CheckLine(l, got), api.OK)
	}
}

func TestLineOfMostDots(t *testing.T) {
	r := dice()
	for range 20 {
		l := randomDots(r, api.MaxDots, 10000)
		got, e := number.Line(l)
		if e != api.OK || number.CheckLine(l, got) != api.OK {
			t.Fatal(l, got, e)
		}
	}
}

func TestCheckLine(t *testing.T) {
	l := dots(0, 0, 1, 1, 2, 0, 3, 1)
	good := api.Trend{Start: frac(1, 2), Slope: frac(0, 1), Error: frac(1, 2), Proof: [3]int{0, 1, 2}}
	for _, c := range []struct {
		name   string
		change func(t *api.Trend)
		want   api.Errno
	}{
		{"the best line", func(t *api.Trend) {}, api.OK},
		{"other dots", func(t *api.Trend) { t.Proof = [3]int{1, 2, 3} }, api.OK},
		{"the form of Start", func(t *api.Trend) { t.Start, t.Slope = frac(2, 4), frac(1, 1000000001) }, api.ErrForm},
		{"the size of Start", func(t *api.Trend) { t.Start, t.Slope = frac(1000000001, 1), frac(2, 4) }, api.ErrRange},
		{"the form of Slope", func(t *api.Trend) { t.Slope, t.Error = frac(0, 2), frac(1000000001, 1) }, api.ErrForm},
		{"the size of Slope", func(t *api.Trend) { t.Slope, t.Error = frac(math.MinInt, 1), frac(2, 4) }, api.ErrRange},
		{"the form of Error", func(t *api.Trend) { t.Error, t.Proof[0] = api.Frac{}, -1 }, api.ErrForm},
		{"the size of Error", func(t *api.Trend) { t.Error, t.Proof[0] = frac(1, 1000000001), -1 }, api.ErrRange},
		{"a denominator too great", func(t *api.Trend) { t.Start, t.Proof[0] = frac(1, 40001), -1 }, api.ErrLarge},
		{"denominators too great", func(t *api.Trend) {
			t.Start, t.Slope, t.Error = frac(1, 200), frac(1, 201), frac(1, 2)
		}, api.ErrLarge},
		{"denominators beyond an int", func(t *api.Trend) {
			t.Start, t.Slope, t.Error = frac(1, 1000000000), frac(1, 999999999), frac(1, 999999997)
		}, api.ErrLarge},
		{"denominators with 40000 in common", func(t *api.Trend) { t.Start, t.Slope = frac(1, 40000), frac(1, 625) }, api.ErrBreak},
		{"no such first dot", func(t *api.Trend) { t.Proof = [3]int{-1, 1, 2} }, api.ErrMissing},
		{"no such middle dot", func(t *api.Trend) { t.Proof = [3]int{0, 4, 2} }, api.ErrMissing},
		{"no such last dot", func(t *api.Trend) { t.Proof = [3]int{2, 1, 4} }, api.ErrMissing},
		{"the extremes", func(t *api.Trend) { t.Proof = [3]int{math.MinInt, 0, math.MaxInt} }, api.ErrMissing},
		{"a dot twice", func(t *api.Trend) { t.Proof = [3]int{0, 0, 1} }, api.ErrOrder},
		{"the last dot twice", func(t *api.Trend) { t.Proof = [3]int{0, 1, 1} }, api.ErrOrder},
		{"falling dots", func(t *api.Trend) { t.Proof, t.Error = [3]int{2, 1, 0}, frac(0, 1) }, api.ErrOrder},
		{"another Start", func(t *api.Trend) { t.Start = frac(1, 1) }, api.ErrBreak},
		{"another Slope", func(t *api.Trend) { t.Slope = frac(-1, 1000) }, api.ErrBreak},
		{"an Error too small", func(t *api.Trend) { t.Error = frac(499, 1000) }, api.ErrBreak},
		{"an Error below 0", func(t *api.Trend) { t.Error = frac(-1, 2) }, api.ErrBreak},
		{"an Error of 0", func(t *api.Trend) { t.Error = frac(0, 1) }, api.ErrBreak},
		{"an Error too great", func(t *api.Trend) { t.Error = frac(2, 3) }, api.ErrProof},
		{"signs not in turn", func(t *api.Trend) { t.Proof = [3]int{0, 2, 3} }, api.ErrProof},
		{"signs not in turn behind", func(t *api.Trend) { t.Proof = [3]int{0, 1, 3} }, api.ErrProof},
		{"the greatest parts", func(t *api.Trend) {
			t.Start, t.Slope, t.Error = frac(1000000000, 39999), frac(-1000000000, 39999), frac(1000000000, 39999)
		}, api.ErrBreak},
		{"a great Error", func(t *api.Trend) { t.Error = frac(1000000000, 1) }, api.ErrProof},
	} {
		line := good
		c.change(&line)
		wantErr(t, c.name, number.CheckLine(l, line), c.want)
	}
}

// The errors of three dots have to be Error in size each, and not together or in turn only.
func TestCheckLineLooksAtEachOfThree(t *testing.T) {
	l := dots(0, 2, 1, -2, 2, 2, 3, 1, 4, -1, 5, -2, 6, 0)
	line := api.Trend{Start: frac(0, 1), Slope: frac(0, 1), Error: frac(2, 1)}
	for three, want := range map[[3]int]api.Errno{
		{0, 1, 2}: api.OK, {1, 2, 5}: api.OK, {0, 1, 3}: api.ErrProof, {0, 4, 5}: api.ErrProof, {3, 4, 5}: api.ErrProof,
		{0, 3, 5}: api.ErrProof, {3, 5, 6}: api.ErrProof, {0, 2, 5}: api.ErrProof, {0, 1, 5}: api.ErrProof, {1, 2, 6}: api.ErrProof,
	} {
		line.Proof = three
		if e := number.CheckLine(l, line); e != want {
			t.Error(three, e, want)
		}
	}
	line.Error = frac(1, 1)
	line.Proof = [3]int{0, 1, 2}
	wantErr(t, "too small", number.CheckLine(l, line), api.ErrBreak)
	small := dots(0, 1, 1, -1, 2, 1, 3, 2)
	line.Error = frac(2, 1)
	wantErr(t, "in turn, but not the greatest", number.CheckLine(small, line), api.ErrProof)
}

// Where no dot has an error, any three prove it, but for another Error than 0 none do.
func TestCheckLineWithoutErrors(t *testing.T) {
	l := dots(0, 1, 1, 3, 2, 5, 4, 9)
	line := api.Trend{Start: frac(1, 1), Slope: frac(2, 1), Error: frac(0, 1)}
	for _, three := range [][3]int{{0, 1, 2}, {0, 1, 3}, {0, 2, 3}, {1, 2, 3}} {
		line.Proof = three
		wantErr(t, "collinear", number.CheckLine(l, line), api.OK)
	}
	line.Error = frac(1, 2)
	wantErr(t, "another Error", number.CheckLine(l, line), api.ErrProof)
	line.Error = frac(-1, 2)
	wantErr(t, "an Error below 0", number.CheckLine(l, line), api.ErrBreak)
}

// Dots as far apart as they may be lead to the greatest denominators of a best line.
func TestCheckLineWithGreatDenominators(t *testing.T) {
	l := dots(-10000, 0, -1, 0, 10000, 1)
	line, e := number.Line(l)
	if e != api.OK || line.Error != frac(9999, 40000) || line.Slope != frac(1, 20000) {
		t.Fatal(line, e)
	}
	wantErr(t, "40000", number.CheckLine(l, line), api.OK)
}
