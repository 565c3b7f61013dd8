package divides_test

import (
	"slices"
	"testing"

	"reckoner/api"
	"reckoner/divides"
)

// spareRoom: what stands behind a sum that is handed in.
func spareRoom() api.Term { return sum("77/78 x^79 y^80 z^81 t^82")[0] }

// roomyNum: the number, with spare room behind its parts.
func roomyNum(a api.Num) api.Num {
	a.D = append(slices.Clone(a.D), 77, 77, 77)[:len(a.D)]
	return a
}

// roomy: the sum, with spare room behind all its lists.
func roomy(p api.Poly) api.Poly {
	var l api.Poly
	for _, t := range p {
		l = append(l, api.Term{C: api.Frac{Top: roomyNum(t.C.Top), Low: roomyNum(t.C.Low)}, M: t.M})
	}
	return append(l, spareRoom(), spareRoom())[:len(p)]
}

// roomyList: likewise, of a list.
func roomyList(l []api.Poly) []api.Poly {
	var k []api.Poly
	for _, p := range l {
		k = append(k, roomy(p))
	}
	return append(k, sum("77 x"), sum("78 y"))[:len(l)]
}

// untouched: is the roomy sum that one still, and its spare room as it was?
func untouched(p, was api.Poly) bool {
	for i, t := range p {
		for _, d := range [][]uint32{t.C.Top.D, t.C.Low.D} {
			if !slices.Equal(d[len(d):len(d)+3], []uint32{77, 77, 77}) {
				return false
			}
		}
		if !sameTerm(t, was[i]) {
			return false
		}
	}
	return len(p) == len(was) && same(p[:len(p)+2][len(p):], api.Poly{spareRoom(), spareRoom()})
}

// untouchedList: likewise, of a list.
func untouchedList(l, was []api.Poly) bool {
	return slices.EqualFunc(l, was, untouched) && sameAll(l[:len(l)+2][len(l):], sums("77 x", "78 y"))
}

// copied: the same, in memory of its own.
func copied(l []api.Poly) []api.Poly {
	k := make([]api.Poly, len(l))
	for i, p := range l {
		for _, t := range p {
			t.C.Top.D, t.C.Low.D = slices.Clone(t.C.Top.D), slices.Clone(t.C.Low.D)
			k[i] = append(k[i], t)
		}
	}
	return k
}

// fill writes over all that the list has room for.
func fill[T any](l []T, by T) {
	l = l[:cap(l)]
	for i := range l {
		l[i] = by
	}
}

// alone fails the test, if two lists of one answer share memory: each is written over by a number of its own, and is to hold it at last.
func alone(t *testing.T, what string, q []api.Poly, r api.Poly) {
	t.Helper()
	sums := append(slices.Clone(q), r)
	var parts [][]uint32
	for _, p := range sums {
		for _, u := range p {
			parts = append(parts, u.C.Top.D, u.C.Low.D)
		}
	}
	for i, d := range parts {
		fill(d, uint32(i))
	}
	for i, d := range parts {
		if slices.ContainsFunc(d[:cap(d)], func(n uint32) bool { return n != uint32(i) }) {
			t.Errorf("%s: two lists share memory", what)
		}
	}
	for i, p := range sums {
		fill(p, api.Term{M: api.Mono{uint16(i)}})
	}
	for i, p := range sums {
		if slices.ContainsFunc(p[:cap(p)], func(b api.Term) bool { return b.M != api.Mono{uint16(i)} }) {
			t.Errorf("%s: two sums share memory", what)
		}
	}
	fill(q, nil)
}

// calls: each one, with an error's number or a truth told as one more sum.
func calls() map[string]func(o api.Order, p api.Poly, l []api.Poly) ([]api.Poly, api.Poly, api.Errno) {
	return map[string]func(o api.Order, p api.Poly, l []api.Poly) ([]api.Poly, api.Poly, api.Errno){
		"Divide": divides.Divide,
		"Left": func(o api.Order, p api.Poly, l []api.Poly) ([]api.Poly, api.Poly, api.Errno) {
			r, e := divides.Left(o, p, l)
			return nil, r, e
		},
		"Exact": func(_ api.Order, p api.Poly, l []api.Poly) ([]api.Poly, api.Poly, api.Errno) {
			var q []api.Poly
			e := api.OK
			for _, by := range l {
				often, ok := divides.Exact(p, by)
				if !ok {
					e++
				}
				q = append(q, often)
			}
			return q, nil, e
		},
	}
}

// R4, R5: what is handed in stays as it was, spare room too; an answer shares no memory with it, nor with an answer of the same call before, nor its lists with one another.
func TestAnswersAreNewMemory(t *testing.T) {
	given := sums("0", "x^2 y + x y^2 + y^2", "x^2 - 1", "3/1000000007 x^3 y - 1000000009 x z + t - 1/2", "x z^65535", "x^4 + 1/2 x^2 + 1/16")
	lists := [][]api.Poly{nil, sums("x y - 1", "y^2 - z"), sums("x - 1"), sums("x - 1", "x - 1"), sums("-2/5"), sums("t - x", "x^2 + 1/4"), sums("x - z"), sums("x", "0"), sums("z"), {{{}}, sum("x")}}
	for what, f := range calls() {
		for _, p := range append(given, api.Poly{{}}) {
			for _, l := range lists {
				for _, o := range append(orders(), 3) {
					u, k := roomy(p), roomyList(l)
					q, r, e := f(o, u, k)
					again, left, e2 := f(o, u, k)
					q0, r0 := copied(again), copied([]api.Poly{left})[0]
					if !sameAll(q, q0) || !same(r, r0) || e != e2 {
						t.Errorf("%s(%d, %v, %v): %v, %v, %d, then %v, %v, %d", what, o, p, l, q, r, e, again, left, e2)
					}
					alone(t, what, q, r)
					q, r, e = f(o, u, k)
					if !sameAll(again, q0) || !same(left, r0) || !sameAll(q, q0) || !same(r, r0) || e != e2 {
						t.Errorf("%s(%d, %v, %v): answers share memory", what, o, p, l)
					}
					if !untouched(u, p) || !untouchedList(k, l) {
						t.Errorf("%s(%d, %v, %v): what was handed in is changed", what, o, p, l)
					}
				}
			}
		}
	}
}
