package divides_test

import (
	"math"
	"math/big"
	"math/rand"
	"slices"
	"strconv"
	"strings"
	"testing"

	"reckoner/api"
	"reckoner/polys"
)

// What the tests hold the program to: sums by the library's fractions, and division by the chapter's words.

// mostOf: how often a letter may stand in a product.
const mostOf = math.MaxUint16

// orders: all that are.
func orders() []api.Order { return []api.Order{api.OrLex, api.OrGraded, api.OrReverse} }

// noOrders: some that are none.
func noOrders() []api.Order { return []api.Order{3, 4, 7, 64, 127, 128, 254, 255} }

// num: a number, as the library has it.
func num(n *big.Int) api.Num {
	a := api.Num{Neg: n.Sign() < 0}
	for left, part := new(big.Int).Abs(n), new(big.Int); left.Sign() > 0; {
		left.DivMod(left, big.NewInt(1000000000), part)
		a.D = append(a.D, uint32(part.Uint64()))
	}
	return a
}

// frac: likewise.
func frac(c *big.Rat) api.Frac { return api.Frac{Top: num(c.Num()), Low: num(c.Denom())} }

// rat: back.
func rat(a api.Frac) *big.Rat {
	var two [2]big.Int
	for i, n := range []api.Num{a.Top, a.Low} {
		for _, part := range slices.Backward(n.D) {
			two[i].Mul(&two[i], big.NewInt(1000000000)).Add(&two[i], big.NewInt(int64(part)))
		}
		if n.Neg {
			two[i].Neg(&two[i])
		}
	}
	return new(big.Rat).SetFrac(&two[0], &two[1])
}

// plain: what stands ahead of each product; none is 0.
type plain map[api.Mono]*big.Rat

// put adds so many of a product.
func (s plain) put(c *big.Rat, m api.Mono) {
	had := s[m]
	if had == nil {
		had = new(big.Rat)
	}
	s[m] = new(big.Rat).Add(had, c)
	if s[m].Sign() == 0 {
		delete(s, m)
	}
}

// sum: as the program has it.
func (s plain) sum() api.Poly {
	var p api.Poly
	for m, c := range s {
		p = append(p, api.Term{C: frac(c), M: m})
	}
	slices.SortFunc(p, func(a, b api.Term) int { return slices.Compare(b.M[:], a.M[:]) })
	return p
}

// plainly: back.
func plainly(p api.Poly) plain {
	s := plain{}
	for _, t := range p {
		s.put(rat(t.C), t.M)
	}
	return s
}

// lead: the greatest product.
func (s plain) lead(o api.Order) api.Mono {
	var top api.Mono // nothing is less than no letter at all
	for m := range s {
		if greater(o, m, top) {
			top = m
		}
	}
	return top
}

// greater: is a above b by the order?
func greater(o api.Order, a, b api.Mono) bool {
	all := func(m api.Mono) int { return int(m[0]) + int(m[1]) + int(m[2]) + int(m[3]) }
	if o != api.OrLex && all(a) != all(b) {
		return all(a) > all(b)
	}
	if o == api.OrReverse {
		for i := 3; i >= 0; i-- {
			if a[i] != b[i] {
				return a[i] < b[i]
			}
		}
	}
	return slices.Compare(a[:], b[:]) > 0
}

// over: what is a without b; false, if that stands not in it.
func over(a, b api.Mono) (api.Mono, bool) {
	for i := range a {
		if a[i] < b[i] {
			return a, false
		}
		a[i] -= b[i]
	}
	return a, true
}

// takeOff takes a sum, times c m, off what is left; false, if there is too much of a letter.
func (s plain) takeOff(by plain, c *big.Rat, m api.Mono) bool {
	for k, d := range by {
		for i := range k {
			if int(k[i])+int(m[i]) > mostOf {
				return false
			}
			k[i] += m[i]
		}
		s.put(new(big.Rat).Neg(new(big.Rat).Mul(c, d)), k)
	}
	return true
}

// division: what Divide is to answer, of what may be divided.
func division(o api.Order, p api.Poly, l []api.Poly) (q []api.Poly, r api.Poly, e api.Errno) {
	left, stays := plainly(p), plain{}
	by, often := make([]plain, len(l)), make([]plain, len(l))
	for i := range l {
		by[i], often[i] = plainly(l[i]), plain{}
	}
going:
	for len(left) > 0 {
		top := left.lead(o)
		for i, d := range by {
			lead := d.lead(o)
			if m, ok := over(top, lead); ok {
				c := new(big.Rat).Quo(left[top], d[lead])
				often[i].put(c, m)
				if !left.takeOff(d, c, m) {
					return nil, nil, api.ErrLimit
				}
				continue going
			}
		}
		stays.put(left[top], top)
		delete(left, top)
	}
	for _, s := range often {
		q = append(q, s.sum())
	}
	return q, stays.sum(), api.OK
}

// sum: of its text: terms with a plus or a hyphen between, in which numbers, fractions and letters stand, with spaces between.
func sum(text string) api.Poly {
	s := plain{}
	for part := range strings.SplitSeq(strings.ReplaceAll(text, " - ", " + -"), " + ") {
		c, m := big.NewRat(1, 1), api.Mono{}
		part, below := strings.CutPrefix(part, "-")
		if below {
			c.Neg(c)
		}
		for word := range strings.FieldsSeq(part) {
			if n, ok := new(big.Rat).SetString(word); ok {
				c.Mul(c, n)
				continue
			}
			letter, power, ok := strings.Cut(word, "^")
			n, _ := strconv.ParseUint(power, 10, 16)
			if !ok {
				n = 1
			}
			m[strings.Index("xyzt", letter)] += uint16(n)
		}
		s.put(c, m)
	}
	return s.sum()
}

// sums: of their texts.
func sums(texts ...string) []api.Poly {
	var l []api.Poly
	for _, text := range texts {
		l = append(l, sum(text))
	}
	return l
}

// sumsThatMayNotBe: with terms that may not be, or are 0, or rise, or stand there twice.
func sumsThatMayNotBe() []api.Poly {
	one, x := sum("1")[0], sum("x")[0]
	l := []api.Poly{{{}}, {{M: api.Mono{1}}}, {{C: frac(new(big.Rat))}}, {x, {C: frac(new(big.Rat))}}, {one, one}, {x, x}, {one, x}, {sum("y^5")[0], x}, {sum("x^2")[0], one, x}, {x, {}}, {{}, one}}
	for _, c := range []api.Frac{
		{Top: num(big.NewInt(1))}, {Low: num(big.NewInt(2))}, {Top: num(big.NewInt(2)), Low: num(big.NewInt(4))}, {Top: num(big.NewInt(1)), Low: num(big.NewInt(-1))},
		{Top: api.Num{D: []uint32{1000000000}}, Low: num(big.NewInt(1))}, {Top: api.Num{D: []uint32{1, 0}}, Low: num(big.NewInt(1))}, {Top: api.Num{Neg: true}, Low: num(big.NewInt(1))},
	} {
		l = append(l, api.Poly{{C: c}}, api.Poly{{C: c, M: api.Mono{1, 0, 2}}}, api.Poly{x, {C: c}}, api.Poly{{C: c, M: api.Mono{2}}, x})
	}
	return l
}

// someRat: mostly a small one, not 0; sometimes of several parts.
func someRat(r *rand.Rand) *big.Rat {
	c := big.NewRat(int64(1+r.Intn(9)), int64(1+r.Intn(6)))
	switch r.Intn(8) {
	case 0:
		c.SetFrac(big.NewInt(1+r.Int63()), big.NewInt(1+r.Int63()))
	case 1, 2, 3, 4:
		c.SetInt64(int64(1 + r.Intn(3)))
	}
	if r.Intn(2) == 0 {
		c.Neg(c)
	}
	return c
}

// some: a sum of one to so many terms of few letters, none oftener than that.
func some(r *rand.Rand, terms, power int) api.Poly {
	s := plain{}
	for len(s) == 0 {
		for range 1 + r.Intn(terms) {
			var m api.Mono
			for i := range m {
				if r.Intn(2) == 0 {
					m[i] = uint16(r.Intn(power + 1))
				}
			}
			s.put(someRat(r), m)
		}
	}
	return s.sum()
}

// someList: up to so many sums, one of them sometimes twice, or one without letters.
func someList(r *rand.Rand, most int) []api.Poly {
	var l []api.Poly
	for range r.Intn(most + 1) {
		l = append(l, some(r, 4, 2))
	}
	if len(l) > 1 && r.Intn(4) == 0 {
		l[len(l)-1] = l[0]
	}
	return l
}

// sameNum: are both one number, part by part?
func sameNum(a, b api.Num) bool { return a.Neg == b.Neg && slices.Equal(a.D, b.D) }

// sameTerm: are both one term, part by part?
func sameTerm(a, b api.Term) bool {
	return a.M == b.M && sameNum(a.C.Top, b.C.Top) && sameNum(a.C.Low, b.C.Low)
}

// same: are both one sum, part by part?
func same(p, q api.Poly) bool { return slices.EqualFunc(p, q, sameTerm) }

// sameAll: are both one list of sums, part by part?
func sameAll(l, k []api.Poly) bool { return slices.EqualFunc(l, k, same) }

// product: of two sums that can be multiplied.
func product(t *testing.T, p, q api.Poly) api.Poly {
	t.Helper()
	m, e := polys.Mul(p, q)
	if e != api.OK {
		t.Errorf("Mul(%v, %v): %d", p, q, e)
	}
	return m
}
