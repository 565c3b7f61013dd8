package limbs

import (
	"cmp"
	"math/bits"
	"slices"
)

// An amount is a number's parts, without its sign. It may have noughts on top but where a function says otherwise.

const (
	base       = 1000000000
	partDigits = 9
)

// at: a part, or 0 where there is none.
func at(l []uint32, i int) uint32 {
	if i < 0 || i >= len(l) {
		return 0
	}
	return l[i]
}

// twoParts: the part at a place, and the one below it, as one number.
func twoParts(l []uint32, top int) int64 {
	return int64(at(l, top))*base + int64(at(l, top-1))
}

// trim takes the noughts off the top.
func trim(l []uint32) []uint32 {
	for len(l) > 0 && l[len(l)-1] == 0 {
		l = l[:len(l)-1]
	}
	return l
}

// partsOf: an amount of 64 bits.
func partsOf(n uint64) []uint32 {
	var l []uint32
	for ; n > 0; n /= base {
		l = append(l, uint32(n%base))
	}
	return l
}

// compare: below 0, 0, above 0, of two without noughts on top.
func compare(a, b []uint32) int {
	if len(a) != len(b) {
		return cmp.Compare(len(a), len(b))
	}
	for i, part := range slices.Backward(a) {
		if part != b[i] {
			return cmp.Compare(part, b[i])
		}
	}
	return 0
}

// blend makes f times a and g times b, together, the content of out, as far as it has room, and answers what goes beyond it. a and b may be out. With amounts of f and g up to base nothing leaves 64 bits.
func blend(out, a, b []uint32, f, g int64) int64 {
	carry := int64(0)
	step := func(x, y uint32) uint32 {
		n := f*int64(x) + g*int64(y) + carry
		carry = n / base
		n -= carry * base
		if n < 0 { // a part is from 0 on: one less is carried
			n += base
			carry--
		}
		return uint32(n)
	}
	for i := range out {
		out[i] = step(at(a, i), at(b, i))
	}
	return carry
}

// product of two amounts.
func product(a, b []uint32) []uint32 {
	if len(a) > len(b) {
		a, b = b, a
	}
	out := make([]uint32, len(a)+len(b))
	for i, part := range a {
		row := out[i : i+len(b)+1]
		blend(row, row, b, 1, int64(part))
	}
	return out
}

// divide: how often the second one, without noughts on top and not 0, goes into the first one, and what is left.
func divide(a, b []uint32) (often, left []uint32) {
	left = append(slices.Clone(a), 0)
	often = make([]uint32, max(len(left)-len(b), 0))
going:
	for i := len(often) - 1; i >= 0; i-- {
		part := left[i : i+len(b)+1]
		n := guess(part, b)
		over := blend(part, part, b, 1, -n)
		for {
			if over >= 0 { // what is left of this part goes on with the part below it
				often[i] = uint32(n)
				continue going
			}
			n--
			over += blend(part, part, b, 1, 1)
		}
	}
	return often, trim(left)
}

// guess: how often b goes into part, which has one part more and is less than base times b: never too few, and at most one too many, for the two parts on top of b are base or more.
func guess(part, b []uint32) int64 {
	top := len(b) - 1
	high, low := bits.Mul64(uint64(twoParts(part, top+1)), base)
	low, carry := bits.Add64(low, uint64(at(part, top-1)), 0)
	n, _ := bits.Div64(high+carry, low, uint64(twoParts(b, top)))
	return int64(n)
}

// common: the greatest amount by which both, without noughts on top, can be divided.
func common(a, b []uint32) []uint32 {
	if compare(a, b) < 0 {
		a, b = b, a
	}
	for len(a) > 2 && len(b) > 0 {
		a, b = nearer(a, b)
	}
	if len(b) == 0 {
		return slices.Clone(a)
	}
	x, y := twoParts(a, 1), twoParts(b, 1)
	for y > 0 {
		x, y = y, x%y
	}
	return partsOf(uint64(x))
}

// nearer takes what is left of a divided by b in the place of b, and b in that of a, once or oftener: dividing numbers of many parts is dear, so the two parts on top tell how often as far as they can.
func nearer(a, b []uint32) (c, d []uint32) {
	top := len(a) - 1
	first, second := follow(twoParts(a, top), twoParts(b, top))
	if first == ([2]int64{1, 0}) {
		_, left := divide(a, b)
		return b, left
	}
	c, d = make([]uint32, len(a)), make([]uint32, len(a))
	blend(c, a, b, first[0], first[1])
	blend(d, a, b, second[0], second[1])
	return trim(c), trim(d)
}

// follow divides two numbers that are the top of greater ones, and goes on with what is left, while that is what it would be for the greater ones, whatever stands below. It answers how often each of both at the beginning stands in each of both at the end; that is less than base, for it is less than the last number that divided, and times that one at most the first x.
func follow(x, y int64) (first, second [2]int64) {
	first, second = [2]int64{1, 0}, [2]int64{0, 1}
	for y+second[0] > 0 && y+second[1] > 0 {
		n := (x + first[0]) / (y + second[0])
		if n != (x+first[1])/(y+second[1]) {
			break
		}
		first, second = second, [2]int64{first[0] - n*second[0], first[1] - n*second[1]}
		x, y = y, x-n*y
	}
	return first, second
}
