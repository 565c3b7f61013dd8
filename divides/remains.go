package divides

import (
	"container/heap"

	"reckoner/api"
	"reckoner/monos"
	"reckoner/polys"
)

// remains is what is left of a sum. Its products are a heap, the greatest on top, for a sum of many terms is gone through as often as something is taken off it.
type remains struct {
	order    api.Order
	products []api.Mono
	terms    map[api.Mono]api.Poly // of each product in the heap: its term alone, or 0, if that has gone
}

// newRemains: at first all of it is left.
func newRemains(o api.Order, p api.Poly) *remains {
	r := &remains{order: o, terms: make(map[api.Mono]api.Poly, len(p))}
	for _, t := range p {
		r.put(t)
	}
	return r
}

// next takes the lead off what is left; false, if nothing is. What is put after it is to be less, or it would be out of turn.
func (r *remains) next() (api.Term, bool) {
	for len(r.products) > 0 {
		m := heap.Pop(r).(api.Mono)
		one := r.terms[m]
		delete(r.terms, m)
		if len(one) > 0 {
			return one[0], true
		}
	}
	return api.Term{}, false
}

// take takes off a sum, so many times.
func (r *remains) take(p api.Poly, often api.Term) api.Errno {
	less := often.C
	less.Top.Neg = !less.Top.Neg
	for _, t := range polys.Scale(p, less) {
		m, e := monos.Mul(t.M, often.M)
		if e != api.OK {
			return e
		}
		r.put(api.Term{C: t.C, M: m})
	}
	return api.OK
}

// put adds a term.
func (r *remains) put(t api.Term) {
	had, ok := r.terms[t.M]
	if !ok {
		heap.Push(r, t.M)
	}
	r.terms[t.M] = polys.Add(had, api.Poly{t}) // in new memory, though nothing was there
}

// Len, Less, Swap, Push and Pop are what a heap goes by.
func (r *remains) Len() int { return len(r.products) }

// Less: the greatest product is on top.
func (r *remains) Less(i, j int) bool { return monos.Cmp(r.order, r.products[i], r.products[j]) > 0 }

// Swap: of two places.
func (r *remains) Swap(i, j int) { r.products[i], r.products[j] = r.products[j], r.products[i] }

// Push: behind all.
func (r *remains) Push(m any) { r.products = append(r.products, m.(api.Mono)) }

// Pop: from behind all.
func (r *remains) Pop() any {
	end := len(r.products) - 1
	m := r.products[end]
	r.products = r.products[:end]
	return m
}
