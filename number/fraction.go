package number

import (
	"strconv"
	"strings"

	"agraffe/api"
	"agraffe/fraction"
	"agraffe/whole"
	"agraffe/words"
)

// maxDigits is how many digits a number in the text of a fraction has at most.
const maxDigits = 10

// CheckFrac returns the error of a fraction (P1.1).
func CheckFrac(f api.Frac) api.Errno {
	return fraction.Error(f)
}

// Add returns a sum (P1.1).
func Add(a, b api.Frac) (api.Frac, api.Errno) {
	if e := firstError(CheckFrac(a), CheckFrac(b)); e != api.OK {
		return api.Frac{}, e
	}
	return fraction.From(a).Plus(b).End()
}

// Times returns a product (P1.1).
func Times(a, b api.Frac) (api.Frac, api.Errno) {
	if e := firstError(CheckFrac(a), CheckFrac(b)); e != api.OK {
		return api.Frac{}, e
	}
	return fraction.From(a).Times(b).End()
}

// Divide returns a divided by b (P1.1).
func Divide(a, b api.Frac) (api.Frac, api.Errno) {
	if e := firstError(CheckFrac(a), CheckFrac(b)); e != api.OK {
		return api.Frac{}, e
	}
	if b.Num == 0 {
		return api.Frac{}, api.ErrZero
	}
	return fraction.From(a).Over(b).End()
}

// Compare returns -1, 0 or 1 as a is less than, equal to, or greater than b (P1.1).
func Compare(a, b api.Frac) (int, api.Errno) {
	if e := firstError(CheckFrac(a), CheckFrac(b)); e != api.OK {
		return 0, e
	}
	return fraction.Compare(a, b), api.OK
}

// Rounded does not hold its bounds against MaxNumber: P1.1 names no error for that.
func Rounded(f api.Frac, times int) (api.Range, api.Errno) {
	if e := CheckFrac(f); e != api.OK {
		return api.Range{}, e
	}
	if times < 1 || times > maxTimes {
		return api.Range{}, api.ErrRange
	}
	product := f.Num * times
	return api.Range{Lo: whole.Down(product, f.Den), Hi: whole.Up(product, f.Den)}, api.OK
}

// FormatFrac returns the text of any fraction, a valid one or not (P1.8).
func FormatFrac(f api.Frac) string {
	if f.Den == 1 {
		return strconv.Itoa(f.Num)
	}
	return strconv.Itoa(f.Num) + "/" + strconv.Itoa(f.Den)
}

// ParseFrac returns the fraction with a text (P1.8).
func ParseFrac(s string) (api.Frac, api.Errno) {
	num, den, cut := strings.Cut(s, "/")
	f := api.Frac{Den: 1}
	fits := false
	if f.Num, fits = words.Number(num, maxDigits); !fits {
		return api.Frac{}, api.ErrSyntax
	}
	if cut {
		if f.Den, fits = words.Number(den, maxDigits); !fits || f.Den < 2 {
			return api.Frac{}, api.ErrSyntax
		}
	}
	if e := CheckFrac(f); e != api.OK {
		return api.Frac{}, e
	}
	return f, api.OK
}
