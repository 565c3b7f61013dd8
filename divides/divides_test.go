package divides_test

import (
	"math/big"
	"math/rand"
	"slices"
	"testing"

	"reckoner/api"
	"reckoner/divides"
	"reckoner/polys"
)

// divide: Divide; it fails the test, if beside an error anything else is told, or a sum that may not be, or if Left tells otherwise.
func divide(t *testing.T, o api.Order, p api.Poly, l []api.Poly) (q []api.Poly, r api.Poly, e api.Errno) {
	t.Helper()
	q, r, e = divides.Divide(o, p, l)
	if e != api.OK && len(q)+len(r) != 0 {
		t.Errorf("Divide(%d, %v, %v): beside %d: %v, %v", o, p, l, e, q, r)
	}
	for _, s := range append(slices.Clone(q), r) {
		if !polys.Check(s) {
			t.Errorf("Divide(%d, %v, %v): %v may not be", o, p, l, s)
		}
	}
	if left, f := divides.Left(o, p, l); !same(left, r) || f != e {
		t.Errorf("Left(%d, %v, %v): %v, %d; Divide: %v, %d", o, p, l, left, f, r, e)
	}
	return q, r, e
}

// divided fails the test, if Divide, or Left, tells otherwise than that.
func divided(t *testing.T, o api.Order, p api.Poly, l, q []api.Poly, r api.Poly) {
	t.Helper()
	often, left, e := divide(t, o, p, l)
	if !sameAll(often, q) || !same(left, r) || e != api.OK {
		t.Errorf("Divide(%d, %v, %v): %v, %v, %d, not %v, %v", o, p, l, often, left, e, q, r)
	}
}

// refused fails the test, if Divide, or Left, tells anything but that error.
func refused(t *testing.T, o api.Order, p api.Poly, l []api.Poly, want api.Errno) {
	t.Helper()
	if _, _, e := divide(t, o, p, l); e != want {
		t.Errorf("Divide(%d, %v, %v): %d, not %d", o, p, l, e, want)
	}
}

// P5.1, P5.3
func TestDivide(t *testing.T) {
	for _, c := range []struct {
		o    api.Order
		p    string
		l, q []api.Poly
		r    string
	}{
		{api.OrLex, "x^2 y + x y^2 + y^2", sums("x y - 1", "y^2 - 1"), sums("x + y", "1"), "x + y + 1"},
		{api.OrLex, "x^2 y + x y^2 + y^2", sums("y^2 - 1", "x y - 1"), sums("x + 1", "x"), "2 x + 1"},
		{api.OrLex, "x^2 y + x y^2 + y^2", sums("x y - 1", "7 z t", "y^2 - 1"), sums("x + y", "0", "1"), "x + y + 1"},
		{api.OrLex, "x", sums("y"), sums("0"), "x"},
		{api.OrLex, "0", sums("x", "y - 1"), sums("0", "0"), "0"},
		{api.OrLex, "x^2 - 1", sums("x - 1"), sums("x + 1"), "0"},
		{api.OrLex, "x^2 + 1", sums("2 x - 1"), sums("1/2 x + 1/4"), "5/4"},
		{api.OrLex, "3 x + 1/7", sums("-6"), sums("-1/2 x - 1/42"), "0"},
		{api.OrLex, "x^3 t + y", sums("x^2 t^2", "x^2 t - z"), sums("0", "x"), "x z + y"},
		{api.OrLex, "x", sums("x - y^2", "y^2 - z"), sums("1", "1"), "z"},
		{api.OrGraded, "x", sums("x - y^2", "y^2 - z"), sums("0", "0"), "x"},
		{api.OrGraded, "x y^2", sums("x - y^2", "y^2 - z"), sums("-x", "0"), "x^2"},
		{api.OrLex, "x^2", sums("x - y"), sums("x + y"), "y^2"},
		{api.OrGraded, "x^2", sums("x - y"), sums("x + y"), "y^2"},
		{api.OrGraded, "x + z^2", sums("y - z^2"), sums("-1"), "x + y"},
		{api.OrGraded, "x z + y^2", sums("x z - y^2"), sums("1"), "2 y^2"},
		{api.OrReverse, "x z + y^2", sums("x z - y^2"), sums("-1"), "2 x z"},
		{api.OrGraded, "x^2 t + x y z", sums("x^2 - z^2", "y z + t"), sums("t", "x"), "-x t + z^2 t"},
		{api.OrReverse, "x^2 t + x y z", sums("x y - t", "x^2 - z^2"), sums("z", "t"), "z^2 t + z t"},
	} {
		divided(t, c.o, sum(c.p), c.l, c.q, sum(c.r))
	}
	if r, e := divides.Left(api.OrGraded, sum("x^2"), sums("x - y")); !same(r, sum("y^2")) || e != api.OK {
		t.Errorf("Left(x^2, x - y): %v, %d", r, e)
	}
}

// P5.1: what the words say, step by step.
func TestDivideByTheWords(t *testing.T) {
	r := rand.New(rand.NewSource(1))
	for range 2000 {
		p, l := some(r, 8, 4), someList(r, 4)
		for _, o := range orders() {
			q, rest, _ := division(o, p, l)
			divided(t, o, p, l, q, rest)
		}
	}
}

// P5.1: many terms go and come again, and most meet others.
func TestDivideOfManyTerms(t *testing.T) {
	p, by := sum("1"), sums("x + 1/2 y - z + 3 t", "y^2 - 2 x t - 5", "x^2 y + 1000000007 z - 1/998244353 t")
	for _, s := range by {
		for range 3 {
			p = product(t, p, s)
		}
	}
	p = polys.Add(p, sum("x^9 z + x^4 y^4 z^4 t^4 - 7/3 y^5 t + 11"))
	for _, o := range orders() {
		for _, l := range [][]api.Poly{by, {by[2], by[1]}, {by[1], by[2], by[0]}} {
			q, rest, _ := division(o, p, l)
			divided(t, o, p, l, q, rest)
		}
	}
}

// P5.1: of several that would go, the first one of the list is taken, whatever their leads are.
func TestDivideTakesTheFirstOne(t *testing.T) {
	for _, o := range orders() {
		divided(t, o, sum("x y"), sums("x - 1", "y - 1"), sums("y", "1"), sum("1"))
		divided(t, o, sum("x y"), sums("y - 1", "x - 1"), sums("x", "1"), sum("1"))
		divided(t, o, sum("x^2"), sums("x - 1", "x - 1", "x^2"), sums("x + 1", "0", "0"), sum("1"))
		divided(t, o, sum("x^2"), sums("x^2", "x - 1", "x - 1"), sums("1", "0", "0"), sum("0"))
		divided(t, o, sum("x^2 + x"), sums("x^2 - y", "x", "2 x"), sums("1", "1", "0"), sum("y"))
		divided(t, o, sum("x^2 + x"), sums("2 x", "x^2 - y", "x"), sums("1/2 x + 1/2", "0", "0"), sum("0"))
		divided(t, o, sum("x + y"), sums("3", "x", "y"), sums("1/3 x + 1/3 y", "0", "0"), sum("0"))
	}
}

// P5.1: with a list that is empty all of it stays; of 0 nothing does.
func TestDivideByNone(t *testing.T) {
	p := sum("x^2 y - 1/2 z + 7 y^9 + 1000000007/3")
	for _, o := range orders() {
		for _, none := range [][]api.Poly{nil, {}} {
			divided(t, o, p, none, nil, p)
			divided(t, o, nil, none, nil, nil)
		}
		for _, nought := range []api.Poly{nil, {}} {
			divided(t, o, nought, sums("x", "1"), sums("0", "0"), nil)
		}
	}
}

// P5.1: ErrArg, ahead of ErrZero.
func TestDivideOfWhatMayNotBe(t *testing.T) {
	p := sum("x^2 y - 1/2 z + 7")
	for _, o := range noOrders() {
		for _, l := range [][]api.Poly{nil, sums("x"), sums("0"), sums("x", "y", "0")} {
			refused(t, o, p, l, api.ErrArg)
			refused(t, o, nil, l, api.ErrArg)
		}
	}
	great := sum("x^65535 y^65535 z^65535 t^65535")
	for _, bad := range sumsThatMayNotBe() {
		for _, o := range append(orders(), 3) {
			for _, l := range [][]api.Poly{nil, sums("x"), sums("0"), {bad}} {
				refused(t, o, bad, l, api.ErrArg)
			}
			for _, l := range [][]api.Poly{{bad}, {bad, sum("x")}, {sum("x"), bad}, {sum("x"), bad, sum("y")}, {nil, bad}, {bad, nil}, {sum("y"), {}, bad}, {sum("x - y^65535"), bad}} {
				refused(t, o, p, l, api.ErrArg)
				refused(t, o, nil, l, api.ErrArg)
				refused(t, o, great, l, api.ErrArg)
			}
		}
	}
}

// P5.1: ErrZero, wherever 0 stands in the list, and whether or not it would come to it.
func TestDivideByNought(t *testing.T) {
	for _, o := range orders() {
		for _, nought := range []api.Poly{nil, {}} {
			for _, l := range [][]api.Poly{{nought}, {nought, sum("x")}, {sum("1"), nought}, {sum("x"), sum("y"), nought}, {sum("x"), nought, sum("y")}, {nought, nought}} {
				refused(t, o, sum("x"), l, api.ErrZero)
				refused(t, o, nil, l, api.ErrZero)
				refused(t, o, sum("x y^65535"), append([]api.Poly{sum("x - y")}, l...), api.ErrZero)
			}
		}
	}
}

// P5.1: ErrLimit, one letter more than there may be, in whichever letter, and only if it is taken off.
func TestDivideLimit(t *testing.T) {
	for _, c := range []struct {
		p    string
		l    []api.Poly
		want api.Errno
	}{
		{"x y^65535", sums("x - y"), api.ErrLimit},
		{"x y^65534", sums("x - y"), api.OK},
		{"x z^65535", sums("x - z"), api.ErrLimit},
		{"x z^65534", sums("x - z"), api.OK},
		{"x t^65535", sums("x - t"), api.ErrLimit},
		{"x t^65534", sums("x - t"), api.OK},
		{"x^65535 y", sums("x y - x - 1"), api.OK},
		{"x^2 y^40000", sums("x - y^20000"), api.ErrLimit}, // only by OrLex, and there at the second step
		{"x^2 y^40000", sums("x - y^12767"), api.OK},
		{"x y^65535 + x", sums("x + y + 1"), api.ErrLimit},
		{"x y^65535 - z", sums("x - z - y", "z"), api.ErrLimit},
		{"x y^65535 - z", sums("z", "x - z - y"), api.ErrLimit},
		{"x z y^65535", sums("z", "x - y"), api.OK},
		{"x z y^65535", sums("x - y", "z"), api.ErrLimit},
		{"z y^65535", sums("x - y", "z"), api.OK},
		{"x^65535 y^65535 z^65535 t^65535", sums("x^65535 y^65535 z^65535 t^65535 - x - y - z - t"), api.OK},
		{"x^65535 y^65535 z^65535 t^65535", sums("x - y", "x"), api.ErrLimit},
		{"x^65535 y^65535 z^65535 t^65535", sums("x", "x - y"), api.OK},
	} {
		p := sum(c.p)
		q, r, e := division(api.OrLex, p, c.l)
		if e != c.want {
			t.Fatalf("%s, %v: %d by the words", c.p, c.l, e)
		}
		if e != api.OK {
			refused(t, api.OrLex, p, c.l, e)
			continue
		}
		divided(t, api.OrLex, p, c.l, q, r)
	}
	refused(t, api.OrGraded, sum("x^2 y^65535"), sums("x - y"), api.ErrLimit)
	refused(t, api.OrReverse, sum("x^2 y^65535"), sums("x - y"), api.ErrLimit)
	refused(t, api.OrReverse, sum("y^2 x^65535"), sums("y^2 - x z"), api.ErrLimit)
	refused(t, api.OrGraded, sum("x^3 y^65534"), sums("x - y"), api.ErrLimit)
	divided(t, api.OrGraded, sum("x y^65534"), sums("x - y"), sums("y^65534"), sum("y^65535"))
	divided(t, api.OrReverse, sum("y^2 x^65534"), sums("y^2 - x z"), sums("x^65534"), sum("x^65535 z"))
	divided(t, api.OrGraded, sum("x^2 y^40000"), sums("x - y^20000"), sums("-x^2 y^20000 - x^3"), sum("x^4"))
}

// P5.1: as many steps as there may be of a letter.
func TestDivideGoesOn(t *testing.T) {
	for _, o := range orders() {
		q, r, e := divides.Divide(o, sum("x^65535"), sums("x - y"))
		if len(q) != 1 || len(q[0]) != mostOf || !same(r, sum("y^65535")) || e != api.OK {
			t.Fatalf("%d sums, %v, %d", len(q), r, e)
		}
		for i, u := range q[0] {
			if want := (api.Mono{uint16(mostOf - 1 - i), uint16(i), 0, 0}); !sameTerm(u, api.Term{C: frac(big.NewRat(1, 1)), M: want}) {
				t.Fatalf("%v, not %v", u, want)
			}
		}
	}
}

// exact fails the test, if Exact tells otherwise than that.
func exact(t *testing.T, p, q, want api.Poly, ok bool) {
	t.Helper()
	if often, all := divides.Exact(p, q); !same(often, want) || all != ok || !polys.Check(often) {
		t.Errorf("Exact(%v, %v): %v, %v, not %v, %v", p, q, often, all, want, ok)
	}
}

// P5.2
func TestExact(t *testing.T) {
	for _, c := range []struct{ p, q, want string }{
		{"x^2 - 1", "x - 1", "x + 1"},
		{"0", "x", "0"},
		{"x", "x", "1"},
		{"x", "-2/3", "-3/2 x"},
		{"x^2 y - y^3", "x y + y^2", "x - y"},
		{"x t^65535", "t^65535", "x"},
		{"z^2 - 2 z t + t^2", "t - z", "-z + t"},
		{"x^65535 y^65535", "x^65535 y^65534", "y"},
		{"6 x^2 - 5 x y + y^2", "1/2 x - 1/4 y", "12 x - 4 y"},
	} {
		exact(t, sum(c.p), sum(c.q), sum(c.want), true)
	}
	for _, c := range [][2]string{{"x", "x + 1"}, {"x", "0"}, {"0", "0"}, {"x", "y"}, {"1", "x"}, {"x", "x^2"}, {"x^2 + 1", "x - 1"}, {"x^2 - 1 + t", "x - 1"}, {"y + x^2 - 1", "x - 1"}, {"x y + y + 1", "x + 1"}, {"x y^65535", "x - y"}, {"x^65535 y^65535", "x - y"}, {"x + y^1000", "y - z - t"}} {
		exact(t, sum(c[0]), sum(c[1]), nil, false)
	}
	for _, bad := range sumsThatMayNotBe() {
		for _, c := range [][2]api.Poly{{bad, sum("x")}, {sum("x"), bad}, {nil, bad}, {bad, nil}, {bad, bad}, {bad, sum("1")}} {
			exact(t, c[0], c[1], nil, false)
		}
	}
}

// P5.2: as Divide by OrLex tells.
func TestExactAsDivide(t *testing.T) {
	r := rand.New(rand.NewSource(2))
	for range 2000 {
		p, q := some(r, 6, 3), some(r, 4, 2)
		exact(t, product(t, p, q), q, p, true)
		more := polys.Add(product(t, p, q), some(r, 2, 2))
		for _, u := range []api.Poly{p, more} {
			often, left, e := divide(t, api.OrLex, u, []api.Poly{q})
			if e != api.OK || len(left) > 0 {
				exact(t, u, q, nil, false)
			} else {
				exact(t, u, q, often[0], true)
			}
		}
	}
}

// P5.4: each of q, times its one of l, and r together are p; no term of r can be divided by a lead of l.
func TestLaws(t *testing.T) {
	r := rand.New(rand.NewSource(3))
	for range 1000 {
		p, l := some(r, 8, 5), someList(r, 4)
		for _, o := range orders() {
			q, rest, e := divide(t, o, p, l)
			if e != api.OK || len(q) != len(l) {
				t.Errorf("Divide(%d, %v, %v): %d sums, %d", o, p, l, len(q), e)
				continue
			}
			all := rest
			for i := range q {
				all = polys.Add(all, product(t, q[i], l[i]))
				lead := plainly(l[i]).lead(o)
				for _, u := range rest {
					if _, ok := over(u.M, lead); ok {
						t.Errorf("Divide(%d, %v, %v): %v can be divided by %v", o, p, l, u, lead)
					}
				}
			}
			if !polys.Same(all, p) {
				t.Errorf("Divide(%d, %v, %v): together %v", o, p, l, all)
			}
			divided(t, o, rest, l, make([]api.Poly, len(l)), rest)
		}
	}
}
