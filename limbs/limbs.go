// Package limbs is layer 1: great numbers. See doc/01-limbs.md.
package limbs

import (
	"math"
	"slices"
	"strconv"
	"strings"

	"reckoner/api"
)

// Check: may a number be? (P1.1)
func Check(a api.Num) bool {
	if len(a.D) == 0 {
		return !a.Neg
	}
	for _, part := range a.D {
		if part >= base {
			return false
		}
	}
	return a.D[len(a.D)-1] != 0
}

// Of: a number of 64 bits; Back: that, if it has no more. (P1.2)
func Of(n int64) api.Num {
	amount := uint64(n)
	if n < 0 {
		amount = -amount // as 64 bits without a sign it holds the amount of -2^63 too
	}
	return number(n < 0, partsOf(amount))
}

// Back: likewise.
func Back(a api.Num) (int64, api.Errno) {
	if !Check(a) {
		return 0, api.ErrArg
	}
	if Cmp(a, Of(math.MinInt64)) < 0 || Cmp(a, Of(math.MaxInt64)) > 0 {
		return 0, api.ErrLimit
	}
	n, sign := int64(0), signOf(a)
	for _, part := range slices.Backward(a.D) {
		n = n*base + sign*int64(part) // with its sign from the start, for -2^63 has no amount here
	}
	return n, api.OK
}

// Cmp: below 0, 0, above 0; Sign: of one. (P1.3)
func Cmp(a, b api.Num) int {
	a, b = orNought(a), orNought(b)
	switch {
	case a.Neg && b.Neg:
		return compare(b.D, a.D)
	case a.Neg:
		return -1
	case b.Neg:
		return 1
	}
	return compare(a.D, b.D)
}

// Sign: likewise.
func Sign(a api.Num) int { return Cmp(a, api.Num{}) }

// Neg, Add, Sub, Mul. (P1.4)
func Neg(a api.Num) api.Num { return Sub(api.Num{}, a) }

// Add: likewise.
func Add(a, b api.Num) api.Num {
	a, b = orNought(a), orNought(b)
	return signedSum(a.D, b.D, signOf(a), signOf(b))
}

// Sub: likewise.
func Sub(a, b api.Num) api.Num {
	a, b = orNought(a), orNought(b)
	return signedSum(a.D, b.D, signOf(a), -signOf(b))
}

// Mul: likewise.
func Mul(a, b api.Num) api.Num {
	a, b = orNought(a), orNought(b)
	return number(a.Neg != b.Neg, product(a.D, b.D))
}

// Div: how often, and what is left, from 0 on. (P1.5)
func Div(a, b api.Num) (q, r api.Num, e api.Errno) {
	if !Check(a) || !Check(b) {
		return api.Num{}, api.Num{}, api.ErrArg
	}
	if len(b.D) == 0 {
		return api.Num{}, api.Num{}, api.ErrZero
	}
	often, left := divide(a.D, b.D)
	q, r = number(a.Neg != b.Neg, often), number(false, left)
	if a.Neg && len(r.D) > 0 { // what is left of an amount is below 0 here: one step further down it isn't
		q = Sub(q, Of(signOf(b)))
		r = signedSum(b.D, r.D, 1, -1)
	}
	return q, r, api.OK
}

// Gcd: the greatest that both can be divided by. (P1.6)
func Gcd(a, b api.Num) api.Num {
	return number(false, common(orNought(a).D, orNought(b).D))
}

// Text: its digits; Parse: back. (P1.7)
func Text(a api.Num) string {
	a = orNought(a)
	if len(a.D) == 0 {
		return "0"
	}
	var text strings.Builder
	if a.Neg {
		text.WriteByte('-')
	}
	top := len(a.D) - 1
	text.WriteString(strconv.Itoa(int(a.D[top])))
	for _, part := range slices.Backward(a.D[:top]) {
		text.WriteString(strconv.Itoa(base + int(part))[1:]) // the 1 ahead keeps the noughts behind it
	}
	return text.String()
}

// Parse: likewise.
func Parse(s string) (api.Num, api.Errno) {
	digits, below := strings.CutPrefix(s, "-")
	if !plain(digits) || below && digits == "0" {
		return api.Num{}, api.ErrForm
	}
	if len(digits) > api.MaxDigits {
		return api.Num{}, api.ErrLimit
	}
	var parts []uint32
	for len(digits) > 0 {
		cut := max(len(digits)-partDigits, 0)
		part := uint32(0)
		for _, digit := range []byte(digits[cut:]) {
			part = part*10 + uint32(digit-'0')
		}
		parts, digits = append(parts, part), digits[:cut]
	}
	return number(below, parts), api.OK
}

// plain: is a text digits, none needless?
func plain(s string) bool {
	for _, c := range []byte(s) {
		if c < '0' || c > '9' {
			return false
		}
	}
	return s == "0" || s != "" && s[0] != '0'
}

// orNought is the number, or 0 if it may not be.
func orNought(a api.Num) api.Num {
	if !Check(a) {
		return api.Num{}
	}
	return a
}

// signOf: -1 below 0, else 1.
func signOf(a api.Num) int64 {
	if a.Neg {
		return -1
	}
	return 1
}

// signedSum is the sum of two amounts, each with its sign, 1 or -1.
func signedSum(a, b []uint32, signA, signB int64) api.Num {
	sum := make([]uint32, max(len(a), len(b))+1)
	below := blend(sum, a, b, signA, signB) < 0
	if below {
		blend(sum, sum, nil, -1, 0) // what lacks to a whole part above all of them is the amount
	}
	return number(below, sum)
}

// number keeps the parts that are handed to it, without the noughts on top.
func number(below bool, parts []uint32) api.Num {
	parts = trim(parts)
	if len(parts) == 0 {
		return api.Num{}
	}
	return api.Num{Neg: below, D: parts}
}
