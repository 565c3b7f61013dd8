package spells

import (
	"math"
	"strings"

	"reckoner/api"
	"reckoner/fracs"
	"reckoner/limbs"
	"reckoner/polys"
)

// term is what a term's factors tell: the numbers above and below, and how often each letter stands there.
type term struct {
	tops, lows []api.Num
	often      [4]int
}

// reader reads a text's words, one behind the other. It panics with ErrForm where the text goes on as no sum's does; what is above a limit is told behind that alone, so reading goes on.
type reader struct {
	text string
	at   int
	over bool // something is above a limit
}

// sum reads the whole text.
func (r *reader) sum() []term {
	l := []term{r.term(r.take('-'))}
	for {
		below := r.take('-')
		if !below && !r.take('+') {
			break
		}
		l = append(l, r.term(below))
	}
	if r.at < len(r.text) {
		panic(api.ErrForm)
	}
	return l
}

// term reads a term, without its sign.
func (r *reader) term(below bool) term {
	t := term{tops: []api.Num{limbs.Of(1)}, lows: []api.Num{limbs.Of(1)}}
	if below {
		t.tops[0] = limbs.Of(-1)
	}
	for more := true; ; more = r.take('*') {
		read := r.factor()
		if read == nil && more {
			panic(api.ErrForm)
		}
		if read == nil {
			return t
		}
		read(&t)
	}
}

// factor is how the factor that begins here is read; nil, if none does.
func (r *reader) factor() func(*term) {
	r.blanks()
	switch {
	case isDigit(r.next()):
		return r.number
	case strings.IndexByte(letters, r.next()) >= 0:
		return r.letter
	}
	return nil
}

// number reads a number, or a fraction.
func (r *reader) number(t *term) {
	t.tops = append(t.tops, r.whole())
	if r.next() == '/' {
		r.at++
		t.lows = append(t.lows, r.above0())
	}
}

// letter reads a letter, and its power.
func (r *reader) letter(t *term) {
	often := &t.often[strings.IndexByte(letters, r.next())]
	r.at++
	n := int64(1)
	if r.next() == '^' {
		r.at++
		var e api.Errno
		n, e = limbs.Back(r.above0())
		r.over = r.over || e != api.OK || n > api.MaxPower
	}
	*often += int(min(n, api.MaxPower))
	r.over = r.over || *often > math.MaxUint16
}

// whole reads digits.
func (r *reader) whole() api.Num {
	from := r.at
	for isDigit(r.next()) {
		r.at++
	}
	n, e := limbs.Parse(r.text[from:r.at])
	if e == api.ErrForm {
		panic(e)
	}
	r.over = r.over || e != api.OK
	return n
}

// above0 reads digits that are not 0. If they begin with a 0, they are 0, or it is needless.
func (r *reader) above0() api.Num {
	if r.next() == '0' {
		panic(api.ErrForm)
	}
	return r.whole()
}

// take reads that sign, if it stands behind the blanks.
func (r *reader) take(sign byte) bool {
	r.blanks()
	if r.next() != sign {
		return false
	}
	r.at++
	return true
}

// blanks goes by them.
func (r *reader) blanks() {
	for r.next() == ' ' || r.next() == '\t' {
		r.at++
	}
}

// next is the next byte; at the end 0, with which no word begins.
func (r *reader) next() byte {
	if r.at == len(r.text) {
		return 0
	}
	return r.text[r.at]
}

// isDigit: does the byte stand in a number?
func isDigit(c byte) bool { return '0' <= c && c <= '9' }

// sumOf is what the terms come to.
func sumOf(l []term) api.Poly {
	sums := make([]api.Poly, len(l))
	for i, t := range l {
		sums[i] = t.sum()
	}
	return together(sums, polys.Add)
}

// sum is the term, as a sum.
func (t term) sum() api.Poly {
	c, _ := fracs.Make(together(t.tops, limbs.Mul), together(t.lows, limbs.Mul))
	var m api.Mono
	for i, n := range t.often {
		m[i] = uint16(n)
	}
	if fracs.Sign(c) == 0 {
		return nil
	}
	return api.Poly{{C: c, M: m}}
}

// together is what one or more come to, halves first: one by one, what grows would be gone through for each that is small.
func together[T any](l []T, both func(a, b T) T) T {
	if len(l) == 1 {
		return l[0]
	}
	half := len(l) / 2
	return both(together(l[:half], both), together(l[half:], both))
}
