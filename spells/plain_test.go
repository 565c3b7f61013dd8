package spells_test

import (
	"math"
	"math/big"
	"math/rand"
	"regexp"
	"slices"
	"strconv"
	"strings"

	"reckoner/api"
)

// What the tests hold the program to: sums by the library's fractions, and texts by the chapter's words.

// mostOf: how often a letter may stand in a product.
const mostOf = math.MaxUint16

// num: a number, as the library has it.
func num(n *big.Int) api.Num {
	a := api.Num{Neg: n.Sign() < 0}
	for left, part := new(big.Int).Abs(n), new(big.Int); left.Sign() > 0; {
		left.DivMod(left, big.NewInt(1000000000), part)
		a.D = append(a.D, uint32(part.Uint64()))
	}
	return a
}

// frac: likewise.
func frac(c *big.Rat) api.Frac { return api.Frac{Top: num(c.Num()), Low: num(c.Denom())} }

// term: one term of a sum, of a fraction as the library writes it.
func term(c string, m api.Mono) api.Term {
	r, _ := new(big.Rat).SetString(c)
	return api.Term{C: frac(r), M: m}
}

// plain: what stands ahead of each product; none is 0.
type plain map[api.Mono]*big.Rat

// put adds so many of a product.
func (s plain) put(c *big.Rat, m api.Mono) {
	had := s[m]
	if had == nil {
		had = new(big.Rat)
	}
	s[m] = new(big.Rat).Add(had, c)
	if s[m].Sign() == 0 {
		delete(s, m)
	}
}

// products: all that stand in it, as they fall.
func (s plain) products() []api.Mono {
	var l []api.Mono
	for m := range s {
		l = append(l, m)
	}
	slices.SortFunc(l, func(a, b api.Mono) int { return slices.Compare(b[:], a[:]) })
	return l
}

// sum: as the program has it.
func (s plain) sum() api.Poly {
	var p api.Poly
	for _, m := range s.products() {
		p = append(p, api.Term{C: frac(s[m]), M: m})
	}
	return p
}

// text: what Text is to answer.
func (s plain) text() string {
	text := ""
	for _, m := range s.products() {
		words := []string{new(big.Rat).Abs(s[m]).RatString()}
		for i, often := range m {
			if often > 0 {
				words = append(words, strings.TrimSuffix("xyzt"[i:i+1]+"^"+strconv.Itoa(int(often)), "^1"))
			}
		}
		if words[0] == "1" && len(words) > 1 {
			words = words[1:]
		}
		text += map[int]string{1: " + ", -1: " - "}[s[m].Sign()] + strings.Join(words, " ")
	}
	switch {
	case text == "":
		return "0"
	case strings.HasPrefix(text, " - "):
		return "-" + text[3:]
	}
	return text[3:]
}

// factor: what one of a text is.
type factor struct {
	c      *big.Rat
	letter int // -1: a number's
	often  int
	over   bool
}

var (
	aWord   = regexp.MustCompile(`[0-9]+(/[0-9]*)?|[a-z](\^[0-9]*)?|[-+*]`)
	aNumber = regexp.MustCompile(`^(0|[1-9][0-9]*)(/([1-9][0-9]*))?$`)
	aLetter = regexp.MustCompile(`^([xyzt])(\^([1-9][0-9]*))?$`)
)

// factorOf: of a word; false, if it is none's.
func factorOf(word string) (factor, bool) {
	if part := aNumber.FindStringSubmatch(word); part != nil {
		c, _ := new(big.Rat).SetString(word)
		return factor{c: c, letter: -1, over: len(part[1]) > api.MaxDigits || len(part[3]) > api.MaxDigits}, true
	}
	part := aLetter.FindStringSubmatch(word)
	if part == nil {
		return factor{}, false
	}
	often, over := 1, false
	if part[3] != "" {
		n, e := strconv.Atoi(part[3])
		often, over = n, e != nil || n > api.MaxPower
	}
	return factor{c: big.NewRat(1, 1), letter: strings.Index("xyzt", part[1]), often: often, over: over}, true
}

// meant: what Parse is to answer.
func meant(text string) (plain, api.Errno) {
	if len(text) > api.MaxText {
		return nil, api.ErrLimit
	}
	if strings.Trim(aWord.ReplaceAllString(text, ""), " \t") != "" {
		return nil, api.ErrForm
	}
	s, e := plain{}, api.OK
	c, often := big.NewRat(1, 1), [4]int{}
	add := func() {
		var m api.Mono
		for i, n := range often {
			m[i] = uint16(n)
			if n > mostOf {
				e = api.ErrLimit
			}
		}
		s.put(c, m)
		c, often = big.NewRat(1, 1), [4]int{}
	}
	before := "" // "": the text begins; "f": a factor; else a sign
	for _, word := range aWord.FindAllString(text, -1) {
		f, isOne := factorOf(word)
		switch {
		case isOne:
			c.Mul(c, f.c)
			if f.letter >= 0 && !f.over {
				often[f.letter] += f.often
			}
			if f.over {
				e = api.ErrLimit
			}
			before = "f"
			continue
		case word == "-" && before == "":
			c.Neg(c)
		case before != "f" || len(word) > 1 || !strings.Contains("+-*", word):
			return nil, api.ErrForm
		case word != "*":
			add()
			if word == "-" {
				c.Neg(c)
			}
		}
		before = word
	}
	if before != "f" {
		return nil, api.ErrForm
	}
	if add(); e != api.OK {
		return nil, e
	}
	return s, api.OK
}

// sumsThatMayNotBe: with terms that may not be, or are 0, or rise, or stand there twice.
func sumsThatMayNotBe() []api.Poly {
	one, x, nought := term("1", api.Mono{}), term("1", api.Mono{1}), term("0", api.Mono{1})
	l := []api.Poly{{{}}, {{M: api.Mono{1}}}, {nought}, {x, nought}, {one, one}, {x, x}, {one, x}, {term("1", api.Mono{0, 5}), x}, {term("1", api.Mono{2}), one, x}, {x, {}}, {{}, one}}
	for _, c := range []api.Frac{
		{Top: num(big.NewInt(1))}, {Low: num(big.NewInt(2))}, {Top: num(big.NewInt(2)), Low: num(big.NewInt(4))}, {Top: num(big.NewInt(1)), Low: num(big.NewInt(-1))},
		{Top: api.Num{D: []uint32{1000000000}}, Low: num(big.NewInt(1))}, {Top: api.Num{D: []uint32{1, 0}}, Low: num(big.NewInt(1))}, {Top: api.Num{Neg: true}, Low: num(big.NewInt(1))},
	} {
		l = append(l, api.Poly{{C: c}}, api.Poly{{C: c, M: api.Mono{1, 0, 2}}}, api.Poly{x, {C: c}}, api.Poly{{C: c, M: api.Mono{2}}, x})
	}
	return l
}

// someRat: mostly a small one, often 1, not 0; sometimes of several parts.
func someRat(r *rand.Rand) *big.Rat {
	c := big.NewRat(int64(1+r.Intn(9)), int64(1+r.Intn(6)))
	switch r.Intn(8) {
	case 0:
		c.SetFrac(big.NewInt(1+r.Int63()), big.NewInt(1+r.Int63()))
	case 1, 2, 3:
		c.SetInt64(int64(1 + r.Intn(2)))
	}
	if r.Intn(2) == 0 {
		c.Neg(c)
	}
	return c
}

// some: a sum of so many terms at most, no letter oftener than that.
func some(r *rand.Rand, terms, power int) plain {
	s := plain{}
	for range r.Intn(terms + 1) {
		var m api.Mono
		for i := range m {
			if r.Intn(2) == 0 {
				m[i] = uint16(r.Intn(power + 1))
			}
		}
		s.put(someRat(r), m)
	}
	return s
}

// someText: of words that may stand in a sum's, mostly as they may.
func someText(r *rand.Rand) string {
	one := func(of ...string) string { return of[r.Intn(len(of))] }
	blank := func() string { return one("", "", " ", "  ", "\t", " \t") }
	word := func() string {
		return one("x", "y", "z", "t", "x^2", "y^3", "t^10", "x^1", "y^1000", "z^1000", "0", "1", "2", "3", "12", "10", "1/2", "4/6", "0/3", "123456789012345678901/7")
	}
	text := blank() + one("", "", "-") + blank()
	for range r.Intn(9) {
		text += word() + blank() + one("", "", "", "*", "+", "-", "+", "-") + blank()
	}
	text += word() + blank()
	for range max(0, r.Intn(6)-3) {
		at := r.Intn(len(text) + 1)
		text = text[:at] + one("+", "-", "*", "/", "^", "0", "01", "x", "w", "\n", "\x00", "ä", "1/0", "x^0", "x^1001", ".", "(", "/3", "^2") + text[at:]
	}
	return text
}
