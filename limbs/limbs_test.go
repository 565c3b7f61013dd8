package limbs_test

import (
	"math"
	"math/big"
	"math/rand"
	"slices"
	"strings"
	"testing"

	"reckoner/api"
	"reckoner/limbs"
)

// num: a number of parts, the lowest first.
func num(parts ...uint32) api.Num { return api.Num{D: parts} }

// below: the same, below 0.
func below(parts ...uint32) api.Num { return api.Num{Neg: true, D: parts} }

// mayNotBe: numbers that may not be.
func mayNotBe() []api.Num {
	return []api.Num{below(), num(0), below(0), num(1, 0), num(0, 0), below(7, 7, 0), num(1000000000), num(5, 1000000000), num(1000000000, 5), below(math.MaxUint32), num(math.MaxUint32, 1)}
}

// same: are both one number, part by part?
func same(a, b api.Num) bool { return a.Neg == b.Neg && slices.Equal(a.D, b.D) }

// isZeroValue: nothing at all in it.
func isZeroValue(a api.Num) bool { return !a.Neg && len(a.D) == 0 }

// toBig: the number as the library has it, by the chapter's words.
func toBig(a api.Num) *big.Int {
	n, base := new(big.Int), big.NewInt(1000000000)
	for _, part := range slices.Backward(a.D) {
		n.Mul(n, base).Add(n, big.NewInt(int64(part)))
	}
	if a.Neg {
		n.Neg(n)
	}
	return n
}

// fromBig: back.
func fromBig(n *big.Int) api.Num {
	a := api.Num{Neg: n.Sign() < 0}
	base := big.NewInt(1000000000)
	for left, part := new(big.Int).Abs(n), new(big.Int); left.Sign() > 0; {
		left.DivMod(left, base, part)
		a.D = append(a.D, uint32(part.Uint64()))
	}
	return a
}

// someNum: one of up to so many parts; parts at the edges are frequent, for there carries go far.
func someNum(r *rand.Rand, most int) api.Num {
	edges := []uint32{0, 0, 1, 2, 499999999, 500000000, 500000001, 999999998, 999999999, 999999999}
	l := make([]uint32, r.Intn(most+1))
	plain := r.Intn(2) == 0
	for i := range l {
		l[i] = edges[r.Intn(len(edges))]
		if plain || r.Intn(4) == 0 {
			l[i] = uint32(r.Intn(1000000000))
		}
	}
	for len(l) > 0 && l[len(l)-1] == 0 {
		l = l[:len(l)-1]
	}
	return api.Num{Neg: len(l) > 0 && r.Intn(2) == 0, D: l}
}

// holds fails the test, if the number may not be, or is not that one.
func holds(t *testing.T, what string, got api.Num, want *big.Int) {
	t.Helper()
	if !limbs.Check(got) || !same(got, fromBig(want)) {
		t.Errorf("%s: %v, not %s", what, got, want)
	}
}

// P1.1
func TestCheck(t *testing.T) {
	for _, a := range []api.Num{{}, {D: []uint32{}}, num(1), below(1), num(999999999), num(0, 1), below(0, 0, 999999999), num(999999999, 999999999)} {
		if !limbs.Check(a) {
			t.Errorf("%v may be", a)
		}
	}
	for _, a := range mayNotBe() {
		if limbs.Check(a) {
			t.Errorf("%v may not be", a)
		}
	}
}

// P1.2
func TestOfAndBack(t *testing.T) {
	for _, c := range []struct {
		n int64
		a api.Num
	}{
		{0, num()}, {1, num(1)}, {-1, below(1)}, {999999999, num(999999999)}, {1000000000, num(0, 1)}, {-1000000000, below(0, 1)},
		{1000000005, num(5, 1)}, {-1000000005, below(5, 1)}, {1000000000000000000, num(0, 0, 1)}, {-999999999999999999, below(999999999, 999999999)},
		{math.MaxInt64, num(854775807, 223372036, 9)}, {math.MinInt64, below(854775808, 223372036, 9)},
	} {
		if a := limbs.Of(c.n); !same(a, c.a) || !limbs.Check(a) {
			t.Errorf("Of(%d): %v", c.n, a)
		}
		if n, e := limbs.Back(c.a); n != c.n || e != api.OK {
			t.Errorf("Back(%v): %d, %d", c.a, n, e)
		}
	}
	for _, a := range []api.Num{num(854775808, 223372036, 9), below(854775809, 223372036, 9), num(0, 0, 10), num(1, 0, 0, 1), below(0, 0, 0, 0, 0, 1)} {
		if n, e := limbs.Back(a); n != 0 || e != api.ErrLimit {
			t.Errorf("Back(%v): %d, %d", a, n, e)
		}
	}
	for _, a := range append(mayNotBe(), num(0, 0, 0, 1, 0)) {
		if n, e := limbs.Back(a); n != 0 || e != api.ErrArg {
			t.Errorf("Back(%v): %d, %d", a, n, e)
		}
	}
}

// P1.3
func TestCmpAndSign(t *testing.T) {
	rising := []api.Num{below(0, 0, 1), below(1, 2), below(2, 1), below(1, 1), below(999999999), below(2), below(1), num(), num(1), num(2), num(999999999), num(0, 1), num(1, 1), num(2, 1), num(1, 2), num(0, 0, 1)}
	for i, a := range rising {
		for j, b := range rising {
			want := 0
			if i < j {
				want = -1
			} else if i > j {
				want = 1
			}
			if n := limbs.Cmp(a, b); n != want {
				t.Errorf("Cmp(%v, %v): %d", a, b, n)
			}
		}
		if n := limbs.Sign(a); n != limbs.Cmp(a, num()) {
			t.Errorf("Sign(%v): %d", a, n)
		}
	}
	if limbs.Sign(below(0, 1)) != -1 || limbs.Sign(num()) != 0 || limbs.Sign(num(1)) != 1 {
		t.Error("Sign")
	}
	for _, a := range mayNotBe() {
		if limbs.Sign(a) != 0 || limbs.Cmp(a, num(1)) != -1 || limbs.Cmp(below(1), a) != -1 || limbs.Cmp(a, num()) != 0 {
			t.Errorf("%v is not 0", a)
		}
	}
}

// P1.4
func TestAddSubMulNeg(t *testing.T) {
	for _, c := range []struct {
		what      string
		got, want api.Num
	}{
		{"Add(999999999, 1)", limbs.Add(num(999999999), num(1)), num(0, 1)},
		{"Add over all parts", limbs.Add(num(999999999, 999999999), num(1)), num(0, 0, 1)},
		{"Add(-1, 1)", limbs.Add(below(1), num(1)), num()},
		{"Add(0 1, -1)", limbs.Add(num(0, 1), below(1)), num(999999999)},
		{"Add(1, -0 1)", limbs.Add(num(1), below(0, 1)), below(999999999)},
		{"Sub(0 1, 1)", limbs.Sub(num(0, 1), num(1)), num(999999999)},
		{"Sub(1, 0 0 1)", limbs.Sub(num(1), num(0, 0, 1)), below(999999999, 999999999)},
		{"Sub(-5, -5)", limbs.Sub(below(5), below(5)), num()},
		{"Mul(999999999, 999999999)", limbs.Mul(num(999999999), num(999999999)), num(1, 999999998)},
		{"Mul(-3, -4)", limbs.Mul(below(3), below(4)), num(12)},
		{"Mul(-3, 0 4)", limbs.Mul(below(3), num(0, 4)), below(0, 12)},
		{"Mul(-3, 0)", limbs.Mul(below(3), num()), num()},
		{"Mul(0, -3)", limbs.Mul(num(), below(3)), num()},
		{"Neg(0)", limbs.Neg(num()), num()},
		{"Neg(5 1)", limbs.Neg(num(5, 1)), below(5, 1)},
		{"Neg(-7)", limbs.Neg(below(7)), num(7)},
	} {
		if !same(c.got, c.want) {
			t.Errorf("%s: %v", c.what, c.got)
		}
	}
	r := rand.New(rand.NewSource(4))
	for range 4000 {
		a, b := someNum(r, 12), someNum(r, 12)
		x, y := toBig(a), toBig(b)
		holds(t, "Add", limbs.Add(a, b), new(big.Int).Add(x, y))
		holds(t, "Sub", limbs.Sub(a, b), new(big.Int).Sub(x, y))
		holds(t, "Mul", limbs.Mul(a, b), new(big.Int).Mul(x, y))
		holds(t, "Neg", limbs.Neg(a), new(big.Int).Neg(x))
		if n := limbs.Cmp(a, b); n != x.Cmp(y) {
			t.Errorf("Cmp(%v, %v): %d", a, b, n)
		}
	}
}

// P1.4, of numbers that may not be: they are 0.
func TestWhatMayNotBeIsNought(t *testing.T) {
	for _, a := range mayNotBe() {
		if x := limbs.Neg(a); !isZeroValue(x) {
			t.Errorf("Neg(%v): %v", a, x)
		}
		if x, y := limbs.Add(a, num(3)), limbs.Add(num(3), a); !same(x, num(3)) || !same(y, num(3)) {
			t.Errorf("Add of %v: %v %v", a, x, y)
		}
		if x, y := limbs.Sub(a, num(3)), limbs.Sub(num(3), a); !same(x, below(3)) || !same(y, num(3)) {
			t.Errorf("Sub of %v: %v %v", a, x, y)
		}
		if x, y := limbs.Mul(a, num(3)), limbs.Mul(num(3), a); !isZeroValue(x) || !isZeroValue(y) {
			t.Errorf("Mul of %v: %v %v", a, x, y)
		}
		if x, y := limbs.Gcd(a, below(3)), limbs.Gcd(num(3), a); !same(x, num(3)) || !same(y, num(3)) {
			t.Errorf("Gcd of %v: %v %v", a, x, y)
		}
		if s := limbs.Text(a); s != "0" {
			t.Errorf("Text(%v): %s", a, s)
		}
	}
}

// P1.5
func TestDiv(t *testing.T) {
	for _, c := range [][4]int64{
		{7, 2, 3, 1}, {-7, 2, -4, 1}, {7, -2, -3, 1}, {-7, -2, 4, 1}, {6, 3, 2, 0}, {-6, 3, -2, 0}, {6, -3, -2, 0}, {-6, -3, 2, 0},
		{0, 5, 0, 0}, {0, -5, 0, 0}, {3, 5, 0, 3}, {-3, 5, -1, 2}, {3, -5, 0, 3}, {-3, -5, 1, 2}, {1, 1000000000, 0, 1}, {-1, 1000000000, -1, 999999999}, {-1, -1000000000, 1, 999999999},
	} {
		q, r, e := limbs.Div(limbs.Of(c[0]), limbs.Of(c[1]))
		if !same(q, limbs.Of(c[2])) || !same(r, limbs.Of(c[3])) || e != api.OK {
			t.Errorf("Div(%d, %d): %v, %v, %d", c[0], c[1], q, r, e)
		}
	}
	for _, a := range []api.Num{num(), num(1), below(0, 5)} {
		if q, r, e := limbs.Div(a, num()); !isZeroValue(q) || !isZeroValue(r) || e != api.ErrZero {
			t.Errorf("Div(%v, 0): %v, %v, %d", a, q, r, e)
		}
	}
	for _, bad := range mayNotBe() {
		for _, c := range [][2]api.Num{{bad, num(2)}, {num(2), bad}, {bad, num()}, {bad, bad}} {
			if q, r, e := limbs.Div(c[0], c[1]); !isZeroValue(q) || !isZeroValue(r) || e != api.ErrArg {
				t.Errorf("Div(%v, %v): %v, %v, %d", c[0], c[1], q, r, e)
			}
		}
	}
}

// P1.5, of great numbers, those among them that are near a whole multiple.
func TestDivOfGreatOnes(t *testing.T) {
	r := rand.New(rand.NewSource(5))
	for range 6000 {
		a, b := someNum(r, 14), someNum(r, 8)
		if len(b.D) == 0 {
			continue
		}
		if r.Intn(3) == 0 {
			a = limbs.Add(limbs.Mul(a, b), limbs.Of(int64(r.Intn(3)-1)))
		}
		want, left := new(big.Int).DivMod(toBig(a), toBig(b), new(big.Int))
		q, rest, e := limbs.Div(a, b)
		if e != api.OK {
			t.Fatalf("Div(%v, %v): %d", a, b, e)
		}
		holds(t, "q", q, want)
		holds(t, "r", rest, left)
	}
	// The two parts on top of both guess one too many here: it is taken back.
	a, b := num(0, 0, 0, 1), num(999999999, 0, 500000000)
	q, rest, e := limbs.Div(a, b)
	if !same(q, num(1)) || !same(rest, num(1, 999999999, 499999999)) || e != api.OK {
		t.Errorf("%v %v %d", q, rest, e)
	}
}

// P1.6
func TestGcd(t *testing.T) {
	for _, c := range [][3]int64{
		{12, -18, 6}, {0, -5, 5}, {-5, 0, 5}, {0, 0, 0}, {1, 7, 1}, {-7, -7, 7}, {1000000000, 4000000000000000000, 1000000000}, {-1 << 63, 6, 2}, {-1 << 63, -1 << 63, -1 << 63},
	} {
		want := limbs.Of(c[2])
		want.Neg = false
		if g := limbs.Gcd(limbs.Of(c[0]), limbs.Of(c[1])); !same(g, want) {
			t.Errorf("Gcd(%d, %d): %v", c[0], c[1], g)
		}
	}
	r := rand.New(rand.NewSource(6))
	for range 6000 {
		c := someNum(r, 6)
		a, b := limbs.Mul(someNum(r, 8), c), limbs.Mul(someNum(r, 8), c)
		x, y := toBig(a), toBig(b)
		holds(t, "Gcd", limbs.Gcd(a, b), new(big.Int).GCD(nil, nil, x.Abs(x), y.Abs(y)))
	}
}

// P1.6, of numbers of which each one goes into the next one above just so often as is asked: once, or often.
func TestGcdOfLongChains(t *testing.T) {
	r := rand.New(rand.NewSource(7))
	for _, most := range []int64{1, 3, 1000, 1000000000, 1 << 60} {
		for _, g := range []api.Num{num(1), num(6), num(5, 0, 7)} {
			a, b := g, api.Num{}
			for range 150 {
				a, b = limbs.Add(limbs.Mul(a, limbs.Of(1+r.Int63n(most))), b), a
			}
			if x, y := limbs.Gcd(a, b), limbs.Gcd(limbs.Neg(b), a); !same(x, g) || !same(y, g) {
				t.Errorf("up to %d times: %v %v, not %v", most, x, y, g)
			}
		}
	}
}

// P1.7
func TestText(t *testing.T) {
	for _, c := range []struct {
		a api.Num
		s string
	}{
		{num(), "0"}, {num(7), "7"}, {below(7), "-7"}, {below(0, 1), "-1000000000"}, {num(5, 1), "1000000005"}, {num(0, 20, 3), "3000000020000000000"}, {num(999999999, 999999999), "999999999999999999"},
		{below(1, 0, 0, 10), "-10000000000000000000000000001"},
	} {
		if s := limbs.Text(c.a); s != c.s {
			t.Errorf("Text(%v): %s", c.a, s)
		}
		if a, e := limbs.Parse(c.s); !same(a, c.a) || e != api.OK {
			t.Errorf("Parse(%s): %v, %d", c.s, a, e)
		}
	}
	long := num(append(make([]uint32, 50), 1)...) // more digits than are read
	if s := limbs.Text(long); s != "1"+strings.Repeat("0", 450) {
		t.Errorf("Text: %s", s)
	}
}

// P1.7
func TestParseOfWhatIsNone(t *testing.T) {
	digits := func(n int) string { return strings.Repeat("7", n) }
	for _, c := range []struct {
		s string
		e api.Errno
	}{
		{"", api.ErrForm}, {"-", api.ErrForm}, {"-0", api.ErrForm}, {"007", api.ErrForm}, {"00", api.ErrForm}, {"-00", api.ErrForm}, {"-07", api.ErrForm}, {"+7", api.ErrForm}, {"--7", api.ErrForm}, {"7-", api.ErrForm},
		{" 7", api.ErrForm}, {"7 ", api.ErrForm}, {"7 7", api.ErrForm}, {"7/", api.ErrForm}, {"7:", api.ErrForm}, {"1e3", api.ErrForm}, {"0x7", api.ErrForm}, {"1_0", api.ErrForm}, {"7\n", api.ErrForm}, {"\x007", api.ErrForm}, {"\xff", api.ErrForm}, {"٣", api.ErrForm}, {"−7", api.ErrForm},
		{digits(api.MaxDigits + 1), api.ErrLimit}, {"-" + digits(api.MaxDigits+1), api.ErrLimit}, {digits(100000), api.ErrLimit},
		{"0" + digits(api.MaxDigits+1), api.ErrForm}, {digits(api.MaxDigits+1) + "a", api.ErrForm},
	} {
		if a, e := limbs.Parse(c.s); !isZeroValue(a) || e != c.e {
			t.Errorf("Parse(%.30q): %v, %d", c.s, a, e)
		}
	}
	for _, s := range []string{digits(api.MaxDigits), "-" + digits(api.MaxDigits), "-1" + strings.Repeat("0", api.MaxDigits-1)} {
		if a, e := limbs.Parse(s); e != api.OK || !limbs.Check(a) || toBig(a).String() != s {
			t.Errorf("Parse(%.30q): %v, %d", s, a, e)
		}
	}
}

// P1.8
func TestLaws(t *testing.T) {
	r := rand.New(rand.NewSource(8))
	for range 2000 {
		a, b, c := someNum(r, 7), someNum(r, 7), someNum(r, 7)
		for _, l := range []struct {
			law  string
			x, y api.Num
		}{
			{"a + b = b + a", limbs.Add(a, b), limbs.Add(b, a)},
			{"(a + b) + c = a + (b + c)", limbs.Add(limbs.Add(a, b), c), limbs.Add(a, limbs.Add(b, c))},
			{"a + 0 = a", limbs.Add(a, num()), a},
			{"a + -a = 0", limbs.Add(a, limbs.Neg(a)), num()},
			{"a - b = a + -b", limbs.Sub(a, b), limbs.Add(a, limbs.Neg(b))},
			{"a b = b a", limbs.Mul(a, b), limbs.Mul(b, a)},
			{"(a b) c = a (b c)", limbs.Mul(limbs.Mul(a, b), c), limbs.Mul(a, limbs.Mul(b, c))},
			{"a (b + c) = a b + a c", limbs.Mul(a, limbs.Add(b, c)), limbs.Add(limbs.Mul(a, b), limbs.Mul(a, c))},
			{"1 a = a", limbs.Mul(num(1), a), a},
			{"gcd(a c, b c) = gcd(a, b) c", limbs.Gcd(limbs.Mul(a, c), limbs.Mul(b, c)), limbs.Mul(limbs.Gcd(a, b), limbs.Gcd(c, num()))},
		} {
			if !same(l.x, l.y) {
				t.Errorf("%s: %v %v, of %v %v %v", l.law, l.x, l.y, a, b, c)
			}
		}
		s := limbs.Text(a)
		if back, e := limbs.Parse(s); s != toBig(a).String() || !same(back, a) || e != api.OK {
			t.Errorf("%s is read as %v, %d", s, back, e)
		}
	}
}

// roomy: a number with spare room behind its parts, which all hold 77.
func roomy(neg bool, parts ...uint32) api.Num {
	l := append(slices.Clone(parts), slices.Repeat([]uint32{77}, 8)...)
	return api.Num{Neg: neg, D: l[:len(parts)]}
}

// fill writes over all that a list has room for.
func fill(a api.Num) {
	l := a.D[:cap(a.D)]
	for i := range l {
		l[i] = 123
	}
}

// R4: what is handed in stays as it was, spare room too, and no answer shares memory with it, or with another answer.
func TestAnswersAreNewMemory(t *testing.T) {
	two := func(f func(a, b api.Num) api.Num) func(a, b api.Num) []api.Num {
		return func(a, b api.Num) []api.Num { return []api.Num{f(a, b)} }
	}
	for what, f := range map[string]func(a, b api.Num) []api.Num{
		"Neg": two(func(a, _ api.Num) api.Num { return limbs.Neg(a) }),
		"Add": two(limbs.Add), "Sub": two(limbs.Sub), "Mul": two(limbs.Mul), "Gcd": two(limbs.Gcd),
		"Div": func(a, b api.Num) []api.Num { q, r, _ := limbs.Div(a, b); return []api.Num{q, r} },
	} {
		for _, c := range [][2][]uint32{{{5, 1}, {}}, {{}, {5, 1}}, {{5, 1}, {7}}, {{7}, {5, 1}}, {{1, 2, 3, 4}, {9, 9, 9}}, {{0, 0, 0, 0, 5}, {0, 0, 5}}, {{6, 6}, {6, 6}}, {{4, 4, 4}, {1}}} {
			for signs := range 4 {
				a, b := roomy(signs&1 > 0 && len(c[0]) > 0, c[0]...), roomy(signs&2 > 0 && len(c[1]) > 0, c[1]...)
				answers := f(a, b)
				for i, x := range answers {
					kept := slices.Clone(answers[len(answers)-1-i].D)
					fill(x)
					if other := answers[len(answers)-1-i].D; len(answers) > 1 && !slices.Equal(other, kept) {
						t.Errorf("%s(%v, %v): answers share memory", what, c[0], c[1])
					}
				}
				for i, x := range []api.Num{a, b} {
					if !slices.Equal(x.D, c[i]) || !slices.Equal(x.D[:len(c[i])+8][len(c[i]):], slices.Repeat([]uint32{77}, 8)) {
						t.Errorf("%s(%v, %v): what was handed in is changed", what, c[0], c[1])
					}
				}
			}
		}
	}
}
