package polys_test

import (
	"math"
	"math/big"
	"math/rand"
	"slices"
	"testing"

	"reckoner/api"
	"reckoner/polys"
)

// mostOf: how often a letter may stand in a product.
const mostOf = math.MaxUint16

// noLetters: numbers that are no letter's.
func noLetters() []int { return []int{4, -1, 5, -4, 256, 65536, math.MaxInt, math.MinInt} }

// num: a number, as the library has it.
func num(n *big.Int) api.Num {
	a := api.Num{Neg: n.Sign() < 0}
	for left, part := new(big.Int).Abs(n), new(big.Int); left.Sign() > 0; {
		left.DivMod(left, big.NewInt(1000000000), part)
		a.D = append(a.D, uint32(part.Uint64()))
	}
	return a
}

// rat: the fraction as the library has it.
func rat(a api.Frac) *big.Rat {
	var two [2]big.Int
	for i, n := range []api.Num{a.Top, a.Low} {
		for _, part := range slices.Backward(n.D) {
			two[i].Mul(&two[i], big.NewInt(1000000000)).Add(&two[i], big.NewInt(int64(part)))
		}
		if n.Neg {
			two[i].Neg(&two[i])
		}
	}
	return new(big.Rat).SetFrac(&two[0], &two[1])
}

// ofRat: back.
func ofRat(a *big.Rat) api.Frac { return api.Frac{Top: num(a.Num()), Low: num(a.Denom())} }

// frac: a fraction of both, just as they are.
func frac(top, low int64) api.Frac {
	return api.Frac{Top: num(big.NewInt(top)), Low: num(big.NewInt(low))}
}

// term: top by low, and how often x, y, z and t stand there.
func term(top, low int64, x, y, z, t uint16) api.Term {
	return api.Term{C: frac(top, low), M: api.Mono{x, y, z, t}}
}

// sumP is x^2 y - 1/2 z + 7.
func sumP() api.Poly {
	return api.Poly{term(1, 1, 2, 1, 0, 0), term(-1, 2, 0, 0, 1, 0), term(7, 1, 0, 0, 0, 0)}
}

// sumQ is x + 1.
func sumQ() api.Poly { return api.Poly{term(1, 1, 1, 0, 0, 0), term(1, 1, 0, 0, 0, 0)} }

// fracsThatMayNotBe: of numbers that may not be, with a number below that isn't above 0, or not in lowest terms.
func fracsThatMayNotBe() []api.Frac {
	one, great := api.Num{D: []uint32{1}}, api.Num{D: []uint32{1000000000}}
	return []api.Frac{
		{}, {Top: one}, {Low: great}, {Top: great, Low: one}, {Top: one, Low: great}, {Top: api.Num{Neg: true}, Low: one}, {Top: api.Num{D: []uint32{1, 0}}, Low: one}, {Top: one, Low: api.Num{D: []uint32{2, 0}}},
		frac(1, -1), frac(1, -2), frac(-3, -2), frac(2, 4), frac(-6, 3), frac(5, 5), frac(0, 2), frac(0, -1),
	}
}

// sumsThatMayNotBe: with terms that may not be, or are 0, or rise, or stand there twice.
func sumsThatMayNotBe() []api.Poly {
	l := []api.Poly{
		{{}}, {{M: api.Mono{1, 0, 0, 0}}}, {term(0, 1, 0, 0, 0, 0)}, {term(0, 1, 3, 0, 0, 0)},
		{term(1, 1, 1, 0, 0, 0), term(0, 1, 0, 1, 0, 0)}, {term(1, 1, 1, 0, 0, 0), {}}, {{}, term(1, 1, 0, 0, 0, 0)}, {term(0, 1, 2, 0, 0, 0), term(1, 1, 1, 0, 0, 0)},
		{term(1, 1, 0, 0, 0, 0), term(1, 1, 0, 0, 0, 0)}, {term(1, 1, 1, 2, 3, 4), term(-1, 1, 1, 2, 3, 4)}, {term(1, 1, 0, 0, 0, 0), term(1, 1, 1, 0, 0, 0)},
		{term(1, 1, 0, 5, 0, 0), term(1, 1, 1, 0, 0, 0)}, {term(1, 1, 1, 0, 0, 1), term(1, 1, 1, 0, 1, 0)}, {term(1, 1, 0, 0, 0, 1), term(1, 1, 0, 0, 0, mostOf)}, {term(1, 1, 0, 0, 1, 0), term(1, 1, 0, 1, 0, 0)},
		{term(1, 1, 2, 0, 0, 0), term(1, 1, 1, 0, 0, 0), term(1, 1, 1, 0, 0, 0)}, {term(1, 1, 2, 0, 0, 0), term(1, 1, 0, 0, 0, 0), term(1, 1, 1, 0, 0, 0)}, {term(1, 1, 3, 0, 0, 0), term(1, 1, 4, 0, 0, 0), term(1, 1, 1, 0, 0, 0)},
		{term(1, 1, 0, 3, 0, 0), term(1, 1, 2, 0, 0, 0)},
	}
	for _, bad := range fracsThatMayNotBe() {
		l = append(l, api.Poly{{C: bad}}, api.Poly{{C: bad, M: api.Mono{1, 0, 2, 0}}}, api.Poly{term(1, 1, 2, 0, 0, 0), {C: bad, M: api.Mono{1, 0, 0, 0}}, term(7, 2, 0, 0, 0, 0)}, api.Poly{term(1, 1, 1, 1, 1, 1), {C: bad}})
	}
	return l
}

// plain: what stands ahead of each product; none is 0.
type plain map[api.Mono]*big.Rat

// put adds so many of a product, if they may be so often there.
func (s plain) put(c *big.Rat, m api.Mono) plain {
	had := s[m]
	if had == nil {
		had = new(big.Rat)
	}
	s[m] = new(big.Rat).Add(had, c)
	if s[m].Sign() == 0 {
		delete(s, m)
	}
	return s
}

// add adds a sum, so many times.
func (s plain) add(p api.Poly, times *big.Rat) plain {
	for _, t := range p {
		s.put(new(big.Rat).Mul(rat(t.C), times), t.M)
	}
	return s
}

// sum: as the program has it.
func (s plain) sum() api.Poly {
	p := api.Poly{}
	for m, c := range s {
		p = append(p, api.Term{C: ofRat(c), M: m})
	}
	slices.SortFunc(p, func(a, b api.Term) int { return slices.Compare(b.M[:], a.M[:]) })
	return p
}

// times: the product of both, by each term of the one and each one of the other.
func times(p, q api.Poly) plain {
	s := plain{}
	for _, a := range p {
		for _, b := range q {
			var m api.Mono
			for i := range m {
				m[i] = a.M[i] + b.M[i]
			}
			s.put(new(big.Rat).Mul(rat(a.C), rat(b.C)), m)
		}
	}
	return s
}

// whole: 1, 2, -1 ..
func whole(n int64) *big.Rat { return big.NewRat(n, 1) }

// sameNum: are both one number, part by part?
func sameNum(a, b api.Num) bool { return a.Neg == b.Neg && slices.Equal(a.D, b.D) }

// sameFrac: are both one fraction, part by part?
func sameFrac(a, b api.Frac) bool { return sameNum(a.Top, b.Top) && sameNum(a.Low, b.Low) }

// sameTerm: are both one term, part by part?
func sameTerm(a, b api.Term) bool { return a.M == b.M && sameFrac(a.C, b.C) }

// same: are both one sum, part by part?
func same(p, q api.Poly) bool { return slices.EqualFunc(p, q, sameTerm) }

// sameAll: are both one list of sums, part by part?
func sameAll(l, k []api.Poly) bool { return slices.EqualFunc(l, k, same) }

// someRat: mostly a small one, not 0; sometimes of several parts.
func someRat(r *rand.Rand) *big.Rat {
	c := big.NewRat(int64(1+r.Intn(9)), int64(1+r.Intn(6)))
	switch r.Intn(8) {
	case 0:
		c.SetFrac(big.NewInt(1+r.Int63()), big.NewInt(1+r.Int63()))
	case 1, 2, 3:
		c.SetInt64(int64(1 + r.Intn(5)))
	}
	if r.Intn(2) == 0 {
		c.Neg(c)
	}
	return c
}

// some: a sum of up to so many terms of few letters, for there are likes among two then.
func some(r *rand.Rand, most int) api.Poly {
	s := plain{}
	for range r.Intn(most + 1) {
		var m api.Mono
		for i := range m {
			if r.Intn(2) == 0 {
				m[i] = uint16(r.Intn(4))
			}
		}
		s.put(someRat(r), m)
	}
	return s.sum()
}

// holds fails the test, if the sum may not be, or is not that one.
func holds(t *testing.T, what string, got, want api.Poly) {
	t.Helper()
	if !same(got, want) || !polys.Check(got) {
		t.Errorf("%s: %v, not %v", what, got, want)
	}
}

// product: Mul of what can be multiplied.
func product(t *testing.T, p, q api.Poly) api.Poly {
	t.Helper()
	m, e := polys.Mul(p, q)
	if e != api.OK {
		t.Errorf("Mul(%v, %v): %d", p, q, e)
	}
	return m
}

// at: At of what may be.
func at(t *testing.T, p api.Poly, l [4]api.Frac) api.Frac {
	t.Helper()
	c, e := polys.At(p, l)
	if e != api.OK {
		t.Errorf("At(%v, %v): %d", p, l, e)
	}
	return c
}

// slope: Slope of what may be.
func slope(t *testing.T, p api.Poly, letter int) api.Poly {
	t.Helper()
	s, e := polys.Slope(p, letter)
	if e != api.OK {
		t.Errorf("Slope(%v, %d): %d", p, letter, e)
	}
	return s
}

// letter: Letter of one that there is.
func letter(t *testing.T, n int) api.Poly {
	t.Helper()
	p, e := polys.Letter(n)
	if e != api.OK {
		t.Errorf("Letter(%d): %d", n, e)
	}
	return p
}

// P4.1
func TestCheck(t *testing.T) {
	for _, p := range []api.Poly{
		nil, {}, sumP(), sumQ(), {term(-1, 2, 0, 0, 0, 0)}, {term(1, 1, mostOf, mostOf, mostOf, mostOf), term(1, 1, mostOf, mostOf, mostOf, mostOf-1), term(1, 1, 0, 0, 0, 0)},
		{term(1, 1, 1, 0, 0, 0), term(1, 1, 0, 5, 0, 0), term(1, 1, 0, 0, 9, 0), term(1, 1, 0, 0, 0, 99), term(1, 1, 0, 0, 0, 0)}, {term(math.MinInt64, math.MaxInt64, 0, 1, 0, 0), term(999999999, 1000000000, 0, 0, 7, 7)},
	} {
		if !polys.Check(p) {
			t.Errorf("%v may be", p)
		}
	}
	for _, p := range sumsThatMayNotBe() {
		if polys.Check(p) {
			t.Errorf("%v may not be", p)
		}
	}
	r := rand.New(rand.NewSource(1))
	for range 2000 {
		p := some(r, 6)
		if !polys.Check(p) {
			t.Errorf("%v may be", p)
		}
		if len(p) > 1 {
			i := r.Intn(len(p) - 1)
			p[i], p[i+1] = p[i+1], p[i]
			if polys.Check(p) {
				t.Errorf("%v may not be", p)
			}
			p[i] = p[i+1]
			if polys.Check(p) {
				t.Errorf("%v may not be", p)
			}
		}
	}
}

// P4.2
func TestOf(t *testing.T) {
	for _, c := range []api.Frac{frac(1, 1), frac(-1, 1), frac(7, 2), frac(-1, 3), frac(math.MinInt64, math.MaxInt64)} {
		holds(t, "Of", polys.Of(c), api.Poly{{C: c}})
	}
	holds(t, "Of(0)", polys.Of(frac(0, 1)), nil)
	for _, bad := range fracsThatMayNotBe() {
		holds(t, "Of", polys.Of(bad), nil)
	}
}

// P4.2
func TestLetter(t *testing.T) {
	for n := range 4 {
		var m api.Mono
		m[n] = 1
		holds(t, "Letter", letter(t, n), api.Poly{{C: frac(1, 1), M: m}})
	}
	for _, n := range noLetters() {
		if p, e := polys.Letter(n); len(p) != 0 || e != api.ErrArg {
			t.Errorf("Letter(%d): %v, %d", n, p, e)
		}
	}
}

// P4.3
func TestAddSubMulScale(t *testing.T) {
	p, q := sumP(), sumQ()
	holds(t, "q + q", polys.Add(q, q), api.Poly{term(2, 1, 1, 0, 0, 0), term(2, 1, 0, 0, 0, 0)})
	holds(t, "q - q", polys.Sub(q, q), nil)
	holds(t, "q q", product(t, q, q), api.Poly{term(1, 1, 2, 0, 0, 0), term(2, 1, 1, 0, 0, 0), term(1, 1, 0, 0, 0, 0)})
	holds(t, "1/2 q", polys.Scale(q, frac(1, 2)), api.Poly{term(1, 2, 1, 0, 0, 0), term(1, 2, 0, 0, 0, 0)})
	holds(t, "p + q", polys.Add(p, q), api.Poly{term(1, 1, 2, 1, 0, 0), term(1, 1, 1, 0, 0, 0), term(-1, 2, 0, 0, 1, 0), term(8, 1, 0, 0, 0, 0)})
	holds(t, "q - p", polys.Sub(q, p), api.Poly{term(-1, 1, 2, 1, 0, 0), term(1, 1, 1, 0, 0, 0), term(1, 2, 0, 0, 1, 0), term(-6, 1, 0, 0, 0, 0)})
	holds(t, "(x + 1)(x - 1)", product(t, q, api.Poly{term(1, 1, 1, 0, 0, 0), term(-1, 1, 0, 0, 0, 0)}), api.Poly{term(1, 1, 2, 0, 0, 0), term(-1, 1, 0, 0, 0, 0)})
	for _, c := range []api.Poly{p, q, nil, {}} {
		holds(t, "0 + ..", polys.Add(nil, c), c)
		holds(t, ".. + 0", polys.Add(c, api.Poly{}), c)
		holds(t, ".. - 0", polys.Sub(c, nil), c)
		holds(t, "0 - ..", polys.Sub(nil, c), polys.Scale(c, frac(-1, 1)))
		holds(t, ".. 0", product(t, c, nil), nil)
		holds(t, "0 ..", product(t, api.Poly{}, c), nil)
		holds(t, "0 times", polys.Scale(c, frac(0, 1)), nil)
		holds(t, "1 times", polys.Scale(c, frac(1, 1)), c)
	}
	r := rand.New(rand.NewSource(2))
	for range 2000 {
		p, q, c := some(r, 7), some(r, 7), someRat(r)
		holds(t, "Add", polys.Add(p, q), plain{}.add(p, whole(1)).add(q, whole(1)).sum())
		holds(t, "Sub", polys.Sub(p, q), plain{}.add(p, whole(1)).add(q, whole(-1)).sum())
		holds(t, "Mul", product(t, p, q), times(p, q).sum())
		holds(t, "Scale", polys.Scale(p, ofRat(c)), plain{}.add(p, c).sum())
	}
}

// P4.3, of many terms, most of which have likes.
func TestMulOfManyTerms(t *testing.T) {
	row := func(n int, m api.Mono) api.Poly {
		s := plain{}
		for i := range n {
			for j := range n {
				s.put(big.NewRat(int64(i*n+j+1), int64(1+i%3)), api.Mono{m[0] * uint16(i), m[1] * uint16(j), m[2] * uint16(i+j), m[3] * uint16(i)})
			}
		}
		return s.sum()
	}
	p, q := row(12, api.Mono{1, 1, 0, 0}), row(11, api.Mono{0, 1, 1, 2})
	holds(t, "Mul", product(t, p, p), times(p, p).sum())
	holds(t, "Mul", product(t, p, q), times(p, q).sum())
}

// P4.3, too much of each letter, in whichever term of both.
func TestMulLimit(t *testing.T) {
	for n := range 4 {
		for _, c := range []struct {
			a, b uint16
			want api.Errno
		}{{mostOf, 0, api.OK}, {0, mostOf, api.OK}, {mostOf - 1, 1, api.OK}, {32768, 32767, api.OK}, {mostOf, 1, api.ErrLimit}, {1, mostOf, api.ErrLimit}, {32768, 32768, api.ErrLimit}, {mostOf, mostOf, api.ErrLimit}} {
			p, q := plain{}.put(whole(1), api.Mono{}), plain{}.put(whole(1), api.Mono{})
			for i := range 4 { // each letter stands in terms of its own, with others ahead of it and behind it
				var m, k api.Mono
				m[i], k[i] = 5, 5
				if i == n {
					m[i], k[i] = c.a, c.b
				}
				p.put(whole(3), m)
				q.put(whole(3), k)
			}
			m, e := polys.Mul(p.sum(), q.sum())
			if e != c.want {
				t.Errorf("letter %d, %d and %d: %d", n, c.a, c.b, e)
			}
			if e != api.OK && len(m) != 0 {
				t.Errorf("beside %d: %v", e, m)
			}
			if e == api.OK && !same(m, times(p.sum(), q.sum()).sum()) {
				t.Errorf("letter %d, %d and %d: %v", n, c.a, c.b, m)
			}
		}
	}
	great := api.Poly{term(1, 1, mostOf, 0, mostOf, 0)}
	holds(t, "0 times much", product(t, nil, great), nil)
	holds(t, "other letters", product(t, great, api.Poly{term(1, 2, 0, mostOf, 0, mostOf)}), api.Poly{term(1, 2, mostOf, mostOf, mostOf, mostOf)})
}

// P4.3, of what may not be; it goes ahead of what has too much of a letter.
func TestMulOfWhatMayNotBe(t *testing.T) {
	great := api.Poly{term(1, 1, mostOf, mostOf, mostOf, mostOf)}
	for _, bad := range sumsThatMayNotBe() {
		for _, c := range [][2]api.Poly{{bad, sumP()}, {sumP(), bad}, {bad, nil}, {nil, bad}, {bad, bad}, {great, slices.Concat(great, bad)}, {slices.Concat(great, bad, great), great}} {
			if m, e := polys.Mul(c[0], c[1]); len(m) != 0 || e != api.ErrArg {
				t.Errorf("Mul(%v, %v): %v, %d", c[0], c[1], m, e)
			}
		}
	}
}

// P4.4
func TestSame(t *testing.T) {
	l := []api.Poly{nil, sumP(), sumQ(), polys.Scale(sumQ(), frac(-1, 1)), polys.Scale(sumQ(), frac(1, 2)), sumP()[:2], sumP()[1:], {term(1, 1, 0, 0, 0, 0)}, {term(2, 1, 0, 0, 0, 0)}, {term(1, 2, 0, 0, 0, 0)}, {term(1, 1, 1, 0, 0, 0)}, {term(1, 1, 0, 0, 0, 1)}, {term(-1, 1, 0, 0, 0, 1)}, {term(1, 1, 0, 0, 0, 2)}}
	for i, p := range l {
		for j, q := range l {
			if got := polys.Same(slices.Clone(p), q); got != (i == j) {
				t.Errorf("Same(%v, %v): %v", p, q, got)
			}
		}
	}
	if !polys.Same(nil, api.Poly{}) {
		t.Error("nil and empty are 0")
	}
}

// P4.3 to P4.6, of sums and fractions that may not be: they are 0.
func TestWhatMayNotBeIsNought(t *testing.T) {
	q, less := sumQ(), api.Poly{term(-1, 1, 1, 0, 0, 0), term(-1, 1, 0, 0, 0, 0)}
	for _, bad := range sumsThatMayNotBe() {
		holds(t, "Add", polys.Add(bad, q), q)
		holds(t, "Add", polys.Add(q, bad), q)
		holds(t, "Add", polys.Add(bad, bad), nil)
		holds(t, "Sub", polys.Sub(bad, q), less)
		holds(t, "Sub", polys.Sub(q, bad), q)
		holds(t, "Sub", polys.Sub(bad, bad), nil)
		holds(t, "Scale", polys.Scale(bad, frac(2, 1)), nil)
		if !polys.Same(bad, nil) || !polys.Same(nil, bad) || !polys.Same(bad, bad) || !polys.Same(bad, api.Poly{{}}) || polys.Same(bad, q) || polys.Same(q, bad) {
			t.Errorf("Same of %v", bad)
		}
		for _, o := range []api.Order{api.OrLex, api.OrGraded, api.OrReverse, 9} {
			if lead, ok := polys.Lead(o, bad); !sameTerm(lead, api.Term{}) || ok {
				t.Errorf("Lead(%d, %v): %v", o, bad, lead)
			}
		}
		for n := range 4 {
			if d, l := polys.Degree(bad, n), polys.Coefs(bad, n); d != -1 || len(l) != 0 {
				t.Errorf("by letter %d of %v: %d, %v", n, bad, d, l)
			}
		}
	}
	for _, bad := range fracsThatMayNotBe() {
		holds(t, "Scale", polys.Scale(q, bad), nil)
	}
}

// greater: is a above b by the order, by the document's words?
func greater(o api.Order, a, b api.Mono) bool {
	all := func(m api.Mono) int { return int(m[0]) + int(m[1]) + int(m[2]) + int(m[3]) }
	if (o == api.OrGraded || o == api.OrReverse) && all(a) != all(b) {
		return all(a) > all(b)
	}
	if o == api.OrReverse {
		for i := 3; i >= 0; i-- {
			if a[i] != b[i] {
				return a[i] < b[i]
			}
		}
	}
	return slices.Compare(a[:], b[:]) > 0
}

// P4.5
func TestLead(t *testing.T) {
	parabola := api.Poly{term(3, 1, 1, 0, 0, 0), term(-5, 2, 0, 2, 0, 0)}
	cubes := api.Poly{term(1, 1, 2, 0, 0, 1), term(2, 1, 1, 1, 1, 0), term(4, 1, 0, 0, 2, 0)}
	for _, c := range []struct {
		o    api.Order
		p    api.Poly
		want api.Term
	}{
		{api.OrLex, sumP(), term(1, 1, 2, 1, 0, 0)}, {api.OrLex, parabola, parabola[0]}, {api.OrGraded, parabola, parabola[1]}, {api.OrReverse, parabola, parabola[1]},
		{api.OrLex, cubes, cubes[0]}, {api.OrGraded, cubes, cubes[0]}, {api.OrReverse, cubes, cubes[1]}, {3, parabola, parabola[0]}, {255, cubes, cubes[0]}, {api.OrReverse, api.Poly{term(-7, 2, 0, 0, 0, 0)}, term(-7, 2, 0, 0, 0, 0)},
	} {
		if lead, ok := polys.Lead(c.o, c.p); !sameTerm(lead, c.want) || !ok {
			t.Errorf("Lead(%d, %v): %v, %v", c.o, c.p, lead, ok)
		}
	}
	r := rand.New(rand.NewSource(3))
	for range 2000 {
		p := some(r, 8)
		for _, o := range []api.Order{api.OrLex, api.OrGraded, api.OrReverse, 3, 17} {
			lead, ok := polys.Lead(o, p)
			if ok != (len(p) > 0) || ok && !slices.ContainsFunc(p, func(b api.Term) bool { return sameTerm(b, lead) }) || slices.ContainsFunc(p, func(b api.Term) bool { return greater(o, b.M, lead.M) }) {
				t.Errorf("Lead(%d, %v): %v, %v", o, p, lead, ok)
			}
		}
	}
	for _, nought := range []api.Poly{nil, {}} {
		if lead, ok := polys.Lead(api.OrLex, nought); !sameTerm(lead, api.Term{}) || ok {
			t.Errorf("Lead of 0: %v, %v", lead, ok)
		}
	}
}

// P4.6
func TestDegreeAndCoefs(t *testing.T) {
	p := sumP()
	for _, c := range []struct {
		p            api.Poly
		letter, want int
	}{{p, 0, 2}, {p, 1, 1}, {p, 2, 1}, {p, 3, 0}, {nil, 0, -1}, {api.Poly{}, 3, -1}, {api.Poly{term(1, 1, 1, 0, 0, 0), term(1, 1, 0, mostOf, 0, 0), term(1, 1, 0, 0, 4, 9)}, 1, mostOf}, {api.Poly{term(1, 1, 1, 0, 0, 0), term(1, 1, 0, 7, 3, 0), term(1, 1, 0, 0, 4, 9)}, 2, 4}} {
		if n := polys.Degree(c.p, c.letter); n != c.want {
			t.Errorf("Degree(%v, %d): %d", c.p, c.letter, n)
		}
		if n := len(polys.Coefs(c.p, c.letter)); n != c.want+1 {
			t.Errorf("Coefs(%v, %d): %d", c.p, c.letter, n)
		}
	}
	for _, c := range []struct {
		p      api.Poly
		letter int
		want   []api.Poly
	}{
		{p, 0, []api.Poly{{term(-1, 2, 0, 0, 1, 0), term(7, 1, 0, 0, 0, 0)}, nil, {term(1, 1, 0, 1, 0, 0)}}},
		{p, 1, []api.Poly{{term(-1, 2, 0, 0, 1, 0), term(7, 1, 0, 0, 0, 0)}, {term(1, 1, 2, 0, 0, 0)}}},
		{p, 2, []api.Poly{{term(1, 1, 2, 1, 0, 0), term(7, 1, 0, 0, 0, 0)}, {term(-1, 2, 0, 0, 0, 0)}}},
		{p, 3, []api.Poly{p}},
		{api.Poly{term(3, 1, 2, 1, 0, 0), term(5, 1, 1, 1, 0, 1), term(4, 3, 0, 1, 0, 0)}, 1, []api.Poly{nil, {term(3, 1, 2, 0, 0, 0), term(5, 1, 1, 0, 0, 1), term(4, 3, 0, 0, 0, 0)}}},
		{nil, 0, nil}, {nil, 4, nil},
	} {
		if l := polys.Coefs(c.p, c.letter); !sameAll(l, c.want) {
			t.Errorf("Coefs(%v, %d): %v", c.p, c.letter, l)
		}
	}
	for _, n := range noLetters() {
		for _, q := range []api.Poly{p, nil, {{}}} {
			if d, l := polys.Degree(q, n), polys.Coefs(q, n); d != -1 || len(l) != 0 {
				t.Errorf("by letter %d of %v: %d, %v", n, q, d, l)
			}
		}
	}
}

// worth: what the sum is there, term by term.
func worth(p api.Poly, l [4]*big.Rat) *big.Rat {
	all := new(big.Rat)
	for _, t := range p {
		c := rat(t.C)
		for i, often := range t.M {
			for range often {
				c.Mul(c, l[i])
			}
		}
		all.Add(all, c)
	}
	return all
}

// P4.7
func TestAt(t *testing.T) {
	o, half := frac(0, 1), frac(1, 2)
	for _, c := range []struct {
		p    api.Poly
		l    [4]api.Frac
		want api.Frac
	}{
		{sumQ(), [4]api.Frac{half, o, o, o}, frac(3, 2)}, {sumP(), [4]api.Frac{o, o, o, o}, frac(7, 1)}, {sumP(), [4]api.Frac{frac(3, 1), half, frac(-3, 1), o}, frac(13, 1)}, {nil, [4]api.Frac{half, half, half, half}, o}, {api.Poly{}, [4]api.Frac{o, o, o, o}, o},
		{api.Poly{term(-5, 3, 0, 0, 0, 0)}, [4]api.Frac{o, o, o, o}, frac(-5, 3)}, {api.Poly{term(4, 1, 1, 0, 0, 0), term(9, 1, 0, 0, 0, 1)}, [4]api.Frac{half, o, o, o}, frac(2, 1)}, {api.Poly{term(1, 1, 3, 0, 0, 0), term(2, 1, 1, 0, 0, 0)}, [4]api.Frac{o, half, half, half}, o},
		{api.Poly{term(1, 1, mostOf, 0, 0, 0), term(1, 1, 0, mostOf, 0, 0), term(3, 1, 0, 0, mostOf-1, 0), term(7, 1, 0, 0, 0, mostOf)}, [4]api.Frac{frac(1, 1), frac(-1, 1), frac(-1, 1), o}, frac(3, 1)},
	} {
		if got := at(t, c.p, c.l); !sameFrac(got, c.want) {
			t.Errorf("At(%v, %v): %v, not %v", c.p, c.l, got, c.want)
		}
	}
	power := new(big.Rat).SetFrac(new(big.Int).Exp(big.NewInt(-3), big.NewInt(mostOf), nil), new(big.Int).Exp(big.NewInt(2), big.NewInt(mostOf), nil))
	if got := at(t, api.Poly{term(1, 1, 0, 0, mostOf, 0)}, [4]api.Frac{o, o, frac(-3, 2), o}); !sameFrac(got, ofRat(power)) {
		t.Error("-3/2, 65535 times")
	}
	r := rand.New(rand.NewSource(4))
	for range 2000 {
		p, l, k := some(r, 8), [4]*big.Rat{}, [4]api.Frac{}
		for i := range l {
			l[i] = someRat(r)
			if r.Intn(5) == 0 {
				l[i] = new(big.Rat)
			}
			k[i] = ofRat(l[i])
		}
		if got, want := at(t, p, k), ofRat(worth(p, l)); !sameFrac(got, want) {
			t.Errorf("At(%v, %v): %v, not %v", p, k, got, want)
		}
	}
}

// P4.7
func TestSlope(t *testing.T) {
	p := sumP()
	for _, c := range []struct {
		p      api.Poly
		letter int
		want   api.Poly
	}{
		{p, 0, api.Poly{term(2, 1, 1, 1, 0, 0)}}, {p, 1, api.Poly{term(1, 1, 2, 0, 0, 0)}}, {p, 2, api.Poly{term(-1, 2, 0, 0, 0, 0)}}, {p, 3, nil}, {nil, 0, nil}, {api.Poly{term(5, 1, 0, 0, 0, 0)}, 0, nil},
		{api.Poly{term(1, 3, 3, 0, 0, 1), term(-1, 2, 2, 0, 0, 1), term(1, 1, 0, 2, 0, 0)}, 0, api.Poly{term(1, 1, 2, 0, 0, 1), term(-1, 1, 1, 0, 0, 1)}}, {api.Poly{term(1, 1, 0, 0, 0, mostOf)}, 3, api.Poly{term(mostOf, 1, 0, 0, 0, mostOf-1)}},
	} {
		holds(t, "Slope", slope(t, c.p, c.letter), c.want)
	}
	r := rand.New(rand.NewSource(5))
	for range 1000 {
		p := some(r, 8)
		for n := range 4 {
			want := plain{}
			for _, b := range p {
				if often := b.M[n]; often > 0 {
					b.M[n]--
					want.put(new(big.Rat).Mul(rat(b.C), whole(int64(often))), b.M)
				}
			}
			holds(t, "Slope", slope(t, p, n), want.sum())
		}
	}
}

// P4.7, of what may not be, in each place.
func TestAtAndSlopeErrors(t *testing.T) {
	one := frac(1, 1)
	for _, bad := range sumsThatMayNotBe() {
		if c, e := polys.At(bad, [4]api.Frac{one, one, one, one}); !sameFrac(c, api.Frac{}) || e != api.ErrArg {
			t.Errorf("At of %v: %v, %d", bad, c, e)
		}
		for n := range 5 {
			if p, e := polys.Slope(bad, n); len(p) != 0 || e != api.ErrArg {
				t.Errorf("Slope of %v: %v, %d", bad, p, e)
			}
		}
	}
	for _, bad := range fracsThatMayNotBe() {
		for i := range 4 {
			l := [4]api.Frac{one, one, one, one}
			l[i] = bad
			for _, p := range []api.Poly{nil, sumQ(), {term(1, 1, 1, 1, 1, 1)}} { // whether the letter stands there or not
				if c, e := polys.At(p, l); !sameFrac(c, api.Frac{}) || e != api.ErrArg {
					t.Errorf("At(%v, %v): %v, %d", p, l, c, e)
				}
			}
		}
	}
	for _, n := range noLetters() {
		for _, q := range []api.Poly{sumP(), nil} {
			if p, e := polys.Slope(q, n); len(p) != 0 || e != api.ErrArg {
				t.Errorf("Slope(%v, %d): %v, %d", q, n, p, e)
			}
		}
	}
}

// P4.8
func TestLaws(t *testing.T) {
	r := rand.New(rand.NewSource(6))
	for range 500 {
		p, q, s, c := some(r, 5), some(r, 5), some(r, 5), ofRat(someRat(r))
		for _, l := range []struct {
			law  string
			x, y api.Poly
		}{
			{"p + q = q + p", polys.Add(p, q), polys.Add(q, p)},
			{"(p + q) + s = p + (q + s)", polys.Add(polys.Add(p, q), s), polys.Add(p, polys.Add(q, s))},
			{"(p - q) + q = p", polys.Add(polys.Sub(p, q), q), p},
			{"p - p = 0", polys.Sub(p, p), nil},
			{"p q = q p", product(t, p, q), product(t, q, p)},
			{"(p q) s = p (q s)", product(t, product(t, p, q), s), product(t, p, product(t, q, s))},
			{"p (q + s) = p q + p s", product(t, p, polys.Add(q, s)), polys.Add(product(t, p, q), product(t, p, s))},
			{"c p = (c) p", polys.Scale(p, c), product(t, polys.Of(c), p)},
			{"1 p = p", product(t, polys.Of(frac(1, 1)), p), p},
		} {
			if !same(l.x, l.y) || !polys.Same(l.x, l.y) || !polys.Check(l.x) {
				t.Errorf("%s: %v %v, of %v %v %v", l.law, l.x, l.y, p, q, s)
			}
		}
		place := [4]api.Frac{ofRat(someRat(r)), ofRat(someRat(r)), ofRat(someRat(r)), ofRat(someRat(r))}
		x, y := at(t, p, place), at(t, q, place)
		if got, want := at(t, product(t, p, q), place), ofRat(new(big.Rat).Mul(rat(x), rat(y))); !sameFrac(got, want) {
			t.Errorf("the product of %v and %v is %v at %v, not %v", p, q, got, place, want)
		}
		for n := range 4 {
			var all api.Poly
			often := polys.Of(frac(1, 1))
			for _, part := range polys.Coefs(p, n) {
				all = polys.Add(all, product(t, part, often))
				often = product(t, often, letter(t, n))
			}
			holds(t, "Coefs, each times the letter as often", all, p)
			holds(t, "(p q)'", slope(t, product(t, p, q), n), polys.Add(product(t, slope(t, p, n), q), product(t, p, slope(t, q, n))))
		}
	}
}

// spare: what stands behind a list that is handed in.
func spare() api.Term { return term(77, 78, 79, 80, 81, 82) }

// roomyNum: the number, with spare room behind its parts.
func roomyNum(a api.Num) api.Num {
	a.D = append(slices.Clone(a.D), 77, 77, 77)[:len(a.D)]
	return a
}

// roomyFrac: likewise.
func roomyFrac(c api.Frac) api.Frac { return api.Frac{Top: roomyNum(c.Top), Low: roomyNum(c.Low)} }

// roomy: the sum, with spare room behind all its lists.
func roomy(p api.Poly) api.Poly {
	var l api.Poly
	for _, t := range p {
		l = append(l, api.Term{C: roomyFrac(t.C), M: t.M})
	}
	return append(l, spare(), spare())[:len(p)]
}

// untouchedFrac: is the roomy fraction that one still, and its spare room as it was?
func untouchedFrac(a, was api.Frac) bool {
	for _, n := range []api.Num{a.Top, a.Low} {
		if !slices.Equal(n.D[len(n.D):len(n.D)+3], []uint32{77, 77, 77}) {
			return false
		}
	}
	return sameFrac(a, was)
}

// untouched: is the roomy sum that one still, and its spare room as it was?
func untouched(p, was api.Poly) bool {
	for i, t := range p {
		if t.M != was[i].M || !untouchedFrac(t.C, was[i].C) {
			return false
		}
	}
	return len(p) == len(was) && same(p[:len(p)+2][len(p):], api.Poly{spare(), spare()})
}

// copied: the same, in memory of its own.
func copied(l []api.Poly) []api.Poly {
	k := make([]api.Poly, len(l))
	for i, p := range l {
		for _, t := range p {
			for _, d := range []*[]uint32{&t.C.Top.D, &t.C.Low.D} {
				*d = slices.Clone(*d)
			}
			k[i] = append(k[i], t)
		}
	}
	return k
}

// lists: all lists of parts that stand there.
func lists(l []api.Poly) [][]uint32 {
	var k [][]uint32
	for _, p := range l {
		for _, t := range p {
			k = append(k, t.C.Top.D, t.C.Low.D)
		}
	}
	return k
}

// fill writes over all that the list has room for.
func fill[T any](l []T, by T) {
	l = l[:cap(l)]
	for i := range l {
		l[i] = by
	}
}

// alone fails the test, if two lists of one answer share memory: each is written over by a number of its own, and is to hold it at last.
func alone(t *testing.T, what string, answer []api.Poly) {
	t.Helper()
	parts := lists(answer)
	for i, d := range parts {
		fill(d, uint32(i))
	}
	for i, d := range parts {
		if slices.ContainsFunc(d[:cap(d)], func(n uint32) bool { return n != uint32(i) }) {
			t.Errorf("%s: two lists share memory", what)
		}
	}
	for i, p := range answer {
		fill(p, api.Term{M: api.Mono{uint16(i)}})
	}
	for i, p := range answer {
		if slices.ContainsFunc(p[:cap(p)], func(b api.Term) bool { return b.M != api.Mono{uint16(i)} }) {
			t.Errorf("%s: two sums share memory", what)
		}
	}
}

// calls: each one that answers a sum, sums or a fraction, as a list of sums.
func calls() map[string]func(p, q api.Poly, c api.Frac) []api.Poly {
	return map[string]func(p, q api.Poly, c api.Frac) []api.Poly{
		"Of":     func(_, _ api.Poly, c api.Frac) []api.Poly { return []api.Poly{polys.Of(c)} },
		"Letter": func(_, _ api.Poly, _ api.Frac) []api.Poly { p, _ := polys.Letter(1); return []api.Poly{p} },
		"Add":    func(p, q api.Poly, _ api.Frac) []api.Poly { return []api.Poly{polys.Add(p, q)} },
		"Sub":    func(p, q api.Poly, _ api.Frac) []api.Poly { return []api.Poly{polys.Sub(p, q)} },
		"Mul":    func(p, q api.Poly, _ api.Frac) []api.Poly { m, _ := polys.Mul(p, q); return []api.Poly{m} },
		"Scale":  func(p, _ api.Poly, c api.Frac) []api.Poly { return []api.Poly{polys.Scale(p, c)} },
		"Lead": func(p, q api.Poly, _ api.Frac) []api.Poly {
			a, _ := polys.Lead(api.OrLex, p)
			b, _ := polys.Lead(api.OrReverse, q)
			return []api.Poly{{a}, {b}}
		},
		"Coefs": func(p, _ api.Poly, _ api.Frac) []api.Poly { return polys.Coefs(p, 0) },
		"At": func(p, _ api.Poly, c api.Frac) []api.Poly {
			a, _ := polys.At(p, [4]api.Frac{c, c, c, c})
			return []api.Poly{{{C: a}}}
		},
		"Slope": func(p, _ api.Poly, _ api.Frac) []api.Poly { s, _ := polys.Slope(p, 0); return []api.Poly{s} },
		"others": func(p, q api.Poly, _ api.Frac) []api.Poly {
			n := int64(polys.Degree(p, 0))
			if polys.Same(p, q) && polys.Check(q) {
				n += 100
			}
			return []api.Poly{{term(n, 1, 0, 0, 0, 0)}}
		},
	}
}

// R4, R5: what is handed in stays as it was, spare room too; an answer shares no memory with it, nor with an answer of the same call before, nor its lists with one another.
func TestAnswersAreNewMemory(t *testing.T) {
	sums := []api.Poly{nil, sumP(), sumQ(), polys.Scale(sumP(), frac(-1, 1)), {term(3, 1000000007, 0, 0, 0, 0)}, {term(1, 1, 2, 0, 0, 0), term(1, 1, 1, 0, 0, 0), term(-2, 3, 0, 1, 0, 0)}, {{}}, {term(1, 1, 0, 0, 0, 0), term(1, 1, 1, 0, 0, 0)}}
	for what, f := range calls() {
		for _, u := range sums {
			for _, v := range sums {
				for _, w := range []api.Frac{frac(0, 1), frac(1, 1), frac(-1, 1), frac(5, 2), {}, frac(2, 4)} {
					p, q, c := roomy(u), roomy(v), roomyFrac(w)
					first, second := f(p, q, c), f(p, q, c)
					was := copied(second)
					if !sameAll(first, was) {
						t.Errorf("%s(%v, %v, %v): %v, then %v", what, u, v, w, first, was)
					}
					alone(t, what, first)
					if !sameAll(second, was) || !sameAll(f(p, q, c), was) {
						t.Errorf("%s(%v, %v, %v): answers share memory", what, u, v, w)
					}
					if !untouched(p, u) || !untouched(q, v) || !untouchedFrac(c, w) {
						t.Errorf("%s(%v, %v, %v): what was handed in is changed", what, u, v, w)
					}
				}
			}
		}
	}
}
