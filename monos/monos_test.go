package monos_test

import (
	"math"
	"math/rand"
	"testing"

	"reckoner/api"
	"reckoner/monos"
)

// most: how often a letter may stand in a product.
const most = math.MaxUint16

// noOrders: numbers that are no order.
func noOrders() []api.Order { return []api.Order{3, 4, 7, 64, 127, 128, 254, 255} }

// orders: all that are, and some that are none.
func orders() []api.Order {
	return append([]api.Order{api.OrLex, api.OrGraded, api.OrReverse}, noOrders()...)
}

// some: a product, mostly of few letters, for two of them have then often as many of one, or in all; of most letters too.
func some(r *rand.Rand) api.Mono {
	var m api.Mono
	for i := range m {
		switch r.Intn(12) {
		case 0:
			m[i] = uint16(most - r.Intn(3))
		case 1:
			m[i] = uint16(r.Intn(most + 1))
		default:
			m[i] = uint16(r.Intn(3))
		}
	}
	return m
}

// inAll: how many letters.
func inAll(m api.Mono) int { return int(m[0]) + int(m[1]) + int(m[2]) + int(m[3]) }

// lexical: by the chapter's words.
func lexical(a, b api.Mono) int {
	switch {
	case a == b:
		return 0
	case a[0] > b[0], a[0] == b[0] && a[1] > b[1], a[0] == b[0] && a[1] == b[1] && a[2] > b[2], a[0] == b[0] && a[1] == b[1] && a[2] == b[2] && a[3] > b[3]:
		return 1
	}
	return -1
}

// backwards: fewer of the last letter of which they have not as many is greater: as lexical of both, turned round, and of one another.
func backwards(a, b api.Mono) int {
	return lexical(api.Mono{b[3], b[2], b[1], b[0]}, api.Mono{a[3], a[2], a[1], a[0]})
}

// wanted: what Cmp is to answer.
func wanted(o api.Order, a, b api.Mono) int {
	if o == api.OrGraded || o == api.OrReverse {
		if n := inAll(a) - inAll(b); n != 0 {
			return max(-1, min(1, n))
		}
	}
	if o == api.OrReverse {
		return backwards(a, b)
	}
	return lexical(a, b)
}

// P3.1
func TestMul(t *testing.T) {
	for _, c := range []struct{ a, b, want api.Mono }{
		{api.Mono{2, 1, 0, 0}, api.Mono{1, 0, 0, 3}, api.Mono{3, 1, 0, 3}},
		{api.Mono{}, api.Mono{}, api.Mono{}},
		{api.Mono{1, 2, 3, 4}, api.Mono{}, api.Mono{1, 2, 3, 4}},
		{api.Mono{}, api.Mono{1, 2, 3, 4}, api.Mono{1, 2, 3, 4}},
		{api.Mono{most, 0, 0, 0}, api.Mono{0, most, most, most}, api.Mono{most, most, most, most}},
		{api.Mono{most - 1, 1, most, 32768}, api.Mono{1, most - 1, 0, 32767}, api.Mono{most, most, most, most}},
	} {
		if m, e := monos.Mul(c.a, c.b); m != c.want || e != api.OK {
			t.Errorf("Mul(%v, %v): %v, %d", c.a, c.b, m, e)
		}
	}
}

// P3.1, too much of each of the letters.
func TestMulOfTooMuch(t *testing.T) {
	for i := range 4 {
		for _, c := range [][2]uint16{{most, 1}, {1, most}, {most, most}, {32768, 32768}, {most - 1, 2}} {
			a, b := api.Mono{1, 2, 3, 4}, api.Mono{5, 6, 7, 8}
			a[i], b[i] = c[0], c[1]
			if m, e := monos.Mul(a, b); m != (api.Mono{}) || e != api.ErrLimit {
				t.Errorf("Mul(%v, %v): %v, %d", a, b, m, e)
			}
		}
	}
}

// P3.2
func TestDiv(t *testing.T) {
	for _, c := range []struct{ a, b, want api.Mono }{
		{api.Mono{3, 1, 0, 0}, api.Mono{2, 1, 0, 0}, api.Mono{1, 0, 0, 0}},
		{api.Mono{}, api.Mono{}, api.Mono{}},
		{api.Mono{1, 2, 3, 4}, api.Mono{}, api.Mono{1, 2, 3, 4}},
		{api.Mono{1, 2, 3, 4}, api.Mono{1, 2, 3, 4}, api.Mono{}},
		{api.Mono{9, 8, 7, 6}, api.Mono{1, 2, 3, 4}, api.Mono{8, 6, 4, 2}},
		{api.Mono{most, most, most, most}, api.Mono{0, 1, most - 1, most}, api.Mono{most, most - 1, 1, 0}},
	} {
		if m, ok := monos.Div(c.a, c.b); m != c.want || !ok {
			t.Errorf("Div(%v, %v): %v, %v", c.a, c.b, m, ok)
		}
	}
}

// P3.2, less than is wanted of each of the letters.
func TestDivOfTooLittle(t *testing.T) {
	if m, ok := monos.Div(api.Mono{1, 0, 0, 0}, api.Mono{0, 1, 0, 0}); m != (api.Mono{}) || ok {
		t.Errorf("%v %v", m, ok)
	}
	for i := range 4 {
		for _, c := range [][2]uint16{{0, 1}, {0, most}, {most - 1, most}, {5, 6}} {
			a, b := api.Mono{9, 9, 9, 9}, api.Mono{5, 6, 7, 8}
			a[i], b[i] = c[0], c[1]
			if m, ok := monos.Div(a, b); m != (api.Mono{}) || ok {
				t.Errorf("Div(%v, %v): %v, %v", a, b, m, ok)
			}
		}
	}
}

// P3.3
func TestLcmAndDegree(t *testing.T) {
	for _, c := range []struct{ a, b, want api.Mono }{
		{api.Mono{2, 0, 1, 0}, api.Mono{1, 3, 0, 0}, api.Mono{2, 3, 1, 0}},
		{api.Mono{}, api.Mono{}, api.Mono{}},
		{api.Mono{1, 2, 3, 4}, api.Mono{}, api.Mono{1, 2, 3, 4}},
		{api.Mono{1, 2, 3, 4}, api.Mono{4, 3, 2, 1}, api.Mono{4, 3, 3, 4}},
		{api.Mono{most, 0, most, most - 1}, api.Mono{0, most, most, most}, api.Mono{most, most, most, most}},
	} {
		if x, y := monos.Lcm(c.a, c.b), monos.Lcm(c.b, c.a); x != c.want || y != c.want {
			t.Errorf("Lcm of %v and %v: %v %v", c.a, c.b, x, y)
		}
	}
	for _, c := range []struct {
		m    api.Mono
		want int
	}{{api.Mono{2, 0, 1, 0}, 3}, {api.Mono{}, 0}, {api.Mono{0, 0, 0, 1}, 1}, {api.Mono{1, 20, 300, 4000}, 4321}, {api.Mono{most, most, most, most}, 262140}} {
		if n := monos.Degree(c.m); n != c.want {
			t.Errorf("Degree(%v): %d", c.m, n)
		}
	}
}

// P3.4
func TestCmp(t *testing.T) {
	for _, c := range []struct {
		o    api.Order
		a, b api.Mono
		want int
	}{
		{api.OrLex, api.Mono{1, 0, 0, 0}, api.Mono{0, 5, 0, 0}, 1},
		{api.OrLex, api.Mono{1, 0, 0, most}, api.Mono{1, 0, 1, 0}, -1},
		{api.OrLex, api.Mono{0, 0, 0, 1}, api.Mono{}, 1},
		{api.OrGraded, api.Mono{1, 0, 0, 0}, api.Mono{0, 5, 0, 0}, -1},
		{api.OrGraded, api.Mono{2, 0, 0, 1}, api.Mono{1, 1, 1, 0}, 1},
		{api.OrGraded, api.Mono{1, 1, 0, 0}, api.Mono{2, 0, 0, 0}, -1},
		{api.OrGraded, api.Mono{0, 0, most, most}, api.Mono{0, 1, most, most}, -1},
		{api.OrReverse, api.Mono{1, 0, 0, 0}, api.Mono{0, 5, 0, 0}, -1},
		{api.OrReverse, api.Mono{2, 0, 0, 1}, api.Mono{1, 1, 1, 0}, -1},
		{api.OrReverse, api.Mono{1, 1, 0, 0}, api.Mono{2, 0, 0, 0}, -1},
		{api.OrReverse, api.Mono{0, 2, 0, 0}, api.Mono{1, 0, 1, 0}, 1},
		{api.OrReverse, api.Mono{0, 0, 0, 2}, api.Mono{1, 0, 0, 0}, 1},
	} {
		if n := monos.Cmp(c.o, c.a, c.b); n != c.want {
			t.Errorf("Cmp(%d, %v, %v): %d", c.o, c.a, c.b, n)
		}
		if n := monos.Cmp(c.o, c.b, c.a); n != -c.want {
			t.Errorf("Cmp(%d, %v, %v): %d", c.o, c.b, c.a, n)
		}
	}
	r := rand.New(rand.NewSource(4))
	for range 20000 {
		a, b := some(r), some(r)
		for _, o := range orders() {
			if n := monos.Cmp(o, a, b); n != wanted(o, a, b) {
				t.Errorf("Cmp(%d, %v, %v): %d", o, a, b, n)
			}
			if n := monos.Cmp(o, a, a); n != 0 {
				t.Errorf("Cmp(%d, %v, the same): %d", o, a, n)
			}
		}
	}
}

// P3.4, orders that are none: as OrLex.
func TestCmpByNoOrder(t *testing.T) {
	for _, o := range noOrders() {
		for _, c := range []struct {
			a, b api.Mono
			want int
		}{{api.Mono{1, 0, 0, 0}, api.Mono{0, 5, 0, 0}, 1}, {api.Mono{0, 1, 0, 0}, api.Mono{0, 0, 7, 9}, 1}, {api.Mono{1, 1, 0, 0}, api.Mono{2, 0, 0, 0}, -1}, {api.Mono{1, 2, 3, 4}, api.Mono{1, 2, 3, 4}, 0}} {
			if n := monos.Cmp(o, c.a, c.b); n != c.want {
				t.Errorf("Cmp(%d, %v, %v): %d", o, c.a, c.b, n)
			}
		}
	}
}

// P3.5
func TestLaws(t *testing.T) {
	r := rand.New(rand.NewSource(5))
	for range 20000 {
		a, b, c := some(r), some(r), some(r)
		if m, e := monos.Mul(a, b); e == api.OK {
			if back, ok := monos.Div(m, b); back != a || !ok {
				t.Errorf("%v by %v: %v, %v", m, b, back, ok)
			}
			if n := monos.Degree(m); n != monos.Degree(a)+monos.Degree(b) {
				t.Errorf("Degree(%v): %d", m, n)
			}
		}
		if m, ok := monos.Div(a, b); ok {
			if back, e := monos.Mul(m, b); back != a || e != api.OK {
				t.Errorf("%v times %v: %v, %d", m, b, back, e)
			}
		}
		for _, both := range []api.Mono{a, b} {
			if _, ok := monos.Div(monos.Lcm(a, b), both); !ok {
				t.Errorf("%v stands not in Lcm(%v, %v)", both, a, b)
			}
		}
		x, e := monos.Mul(a, c)
		y, e2 := monos.Mul(b, c)
		for _, o := range orders() {
			if e == api.OK && e2 == api.OK && monos.Cmp(o, x, y) != monos.Cmp(o, a, b) {
				t.Errorf("order %d goes not on from %v and %v to %v and %v", o, a, b, x, y)
			}
			if a != (api.Mono{}) && monos.Cmp(o, a, api.Mono{}) != 1 {
				t.Errorf("order %d: %v is not above no letter", o, a)
			}
		}
	}
}
