package fracs_test

import (
	"math"
	"math/big"
	"math/rand"
	"slices"
	"strings"
	"testing"

	"reckoner/api"
	"reckoner/fracs"
)

// num: a number of parts, the lowest first.
func num(parts ...uint32) api.Num { return api.Num{D: parts} }

// below: the same, below 0.
func below(parts ...uint32) api.Num { return api.Num{Neg: true, D: parts} }

// whole: a number of 64 bits, as the library has it.
func whole(n int64) api.Num { return fromBig(big.NewInt(n)) }

// frac: a fraction of both, just as they are.
func frac(top, low int64) api.Frac { return api.Frac{Top: whole(top), Low: whole(low)} }

// numsThatMayNotBe: numbers that may not be.
func numsThatMayNotBe() []api.Num {
	return []api.Num{below(), num(0), below(0), num(1, 0), num(0, 0), below(7, 7, 0), num(1000000000), num(5, 1000000000), num(1000000000, 5), below(math.MaxUint32), num(math.MaxUint32, 1)}
}

// mayNotBe: fractions that may not be: of numbers that may not be, with a number below that isn't above 0, or not in lowest terms.
func mayNotBe() []api.Frac {
	l := []api.Frac{
		{}, {Top: num(1)}, {Top: below(5, 1)}, frac(1, -1), frac(-1, -1), frac(-1, -2), frac(3, -2), frac(0, -1),
		frac(0, 2), frac(2, 4), frac(-2, 4), frac(5, 5), frac(-6, 3), frac(4, 2), frac(7, 1000000007*7), frac(6000000000, 4000000000),
		{Top: num(0, 3), Low: num(0, 1)}, {Top: num(0, 0, 0, 1), Low: num(0, 0, 1)}, {Top: num(2), Low: num(0, 0, 0, 1)}, {Top: num(0, 1), Low: below(1)},
	}
	for _, bad := range numsThatMayNotBe() {
		l = append(l, api.Frac{Top: bad, Low: num(1)}, api.Frac{Top: num(1), Low: bad}, api.Frac{Top: num(), Low: bad}, api.Frac{Top: bad, Low: bad})
	}
	return l
}

// sameNum: are both one number, part by part?
func sameNum(a, b api.Num) bool { return a.Neg == b.Neg && slices.Equal(a.D, b.D) }

// same: are both one fraction, part by part?
func same(a, b api.Frac) bool { return sameNum(a.Top, b.Top) && sameNum(a.Low, b.Low) }

// isZeroValue: nothing at all in it.
func isZeroValue(a api.Frac) bool { return same(a, api.Frac{}) }

// toBig: the number as the library has it.
func toBig(a api.Num) *big.Int {
	n, base := new(big.Int), big.NewInt(1000000000)
	for _, part := range slices.Backward(a.D) {
		n.Mul(n, base).Add(n, big.NewInt(int64(part)))
	}
	if a.Neg {
		n.Neg(n)
	}
	return n
}

// fromBig: back.
func fromBig(n *big.Int) api.Num {
	a := api.Num{Neg: n.Sign() < 0}
	base := big.NewInt(1000000000)
	for left, part := new(big.Int).Abs(n), new(big.Int); left.Sign() > 0; {
		left.DivMod(left, base, part)
		a.D = append(a.D, uint32(part.Uint64()))
	}
	return a
}

// toRat: the fraction as the library has it.
func toRat(a api.Frac) *big.Rat { return new(big.Rat).SetFrac(toBig(a.Top), toBig(a.Low)) }

// fromRat: back; the library keeps its own in lowest terms.
func fromRat(a *big.Rat) api.Frac { return api.Frac{Top: fromBig(a.Num()), Low: fromBig(a.Denom())} }

// mayBe: may it be, by the chapter's words, asked of the library's numbers?
func mayBe(a api.Frac) bool {
	for _, n := range []api.Num{a.Top, a.Low} {
		if !sameNum(n, fromBig(toBig(n))) {
			return false
		}
	}
	top, low := toBig(a.Top), toBig(a.Low)
	return low.Sign() > 0 && new(big.Int).GCD(nil, nil, top.Abs(top), low).Cmp(big.NewInt(1)) == 0
}

// someNum: one of up to so many parts; parts at the edges are frequent, for there carries go far.
func someNum(r *rand.Rand, most int) api.Num {
	edges := []uint32{0, 0, 1, 2, 4, 6, 500000000, 999999998, 999999999, 999999999}
	l := make([]uint32, r.Intn(most+1))
	plain := r.Intn(2) == 0
	for i := range l {
		l[i] = edges[r.Intn(len(edges))]
		if plain {
			l[i] = uint32(r.Intn(1000000000))
		}
	}
	for len(l) > 0 && l[len(l)-1] == 0 {
		l = l[:len(l)-1]
	}
	return api.Num{Neg: len(l) > 0 && r.Intn(2) == 0, D: l}
}

// someFrac: small ones, for they have often something in common, whole ones, and great ones.
func someFrac(r *rand.Rand) api.Frac {
	switch r.Intn(4) {
	case 0:
		return fromRat(big.NewRat(int64(r.Intn(41)-20), int64(1+r.Intn(24))))
	case 1:
		return api.Frac{Top: someNum(r, 4), Low: num(1)}
	}
	low := someNum(r, 6)
	if len(low.D) == 0 {
		low = num(0, 6)
	}
	return fromRat(new(big.Rat).SetFrac(toBig(someNum(r, 6)), toBig(low)))
}

// holds fails the test, if the fraction may not be, or is not that one.
func holds(t *testing.T, what string, got api.Frac, want *big.Rat) {
	t.Helper()
	if !mayBe(got) || !fracs.Check(got) || !same(got, fromRat(want)) {
		t.Errorf("%s: %v, not %s", what, got, want)
	}
}

// quotient: Div of what can be divided.
func quotient(t *testing.T, a, b api.Frac) api.Frac {
	t.Helper()
	q, e := fracs.Div(a, b)
	if e != api.OK {
		t.Errorf("Div(%v, %v): %d", a, b, e)
	}
	return q
}

// P2.1
func TestCheck(t *testing.T) {
	for _, a := range []api.Frac{frac(0, 1), {Top: api.Num{D: []uint32{}}, Low: num(1)}, frac(1, 1), frac(-1, 1), frac(1, 2), frac(-3, 2), frac(2, 3), frac(999999999, 1000000000), frac(math.MinInt64, 1), frac(-1, math.MaxInt64), {Top: num(1, 0, 0, 1), Low: num(0, 0, 1)}, {Top: num(1), Low: num(0, 0, 0, 1)}} {
		if !fracs.Check(a) {
			t.Errorf("%v may be", a)
		}
	}
	for _, a := range mayNotBe() {
		if fracs.Check(a) {
			t.Errorf("%v may not be", a)
		}
	}
	r := rand.New(rand.NewSource(1))
	for range 4000 {
		a := api.Frac{Top: someNum(r, 3), Low: someNum(r, 3)}
		if got := fracs.Check(a); got != mayBe(a) {
			t.Errorf("Check(%v): %v", a, got)
		}
		a = someFrac(r)
		if !fracs.Check(a) {
			t.Errorf("%v may be", a)
		}
	}
}

// P2.2
func TestMake(t *testing.T) {
	for _, c := range []struct{ top, low, wantTop, wantLow int64 }{
		{6, -4, -3, 2}, {0, 5, 0, 1}, {0, -5, 0, 1}, {0, 1, 0, 1}, {6, 4, 3, 2}, {-6, 4, -3, 2}, {-6, -4, 3, 2}, {1, 1, 1, 1}, {-1, -1, 1, 1}, {1, -1, -1, 1}, {1, 2, 1, 2}, {7, -7, -1, 1}, {4, 2, 2, 1}, {5, 15, 1, 3},
		{math.MinInt64, math.MinInt64, 1, 1}, {1000000000000000000, -3000000000, -1000000000, 3}, {1, -1000000007, -1, 1000000007},
	} {
		if a, e := fracs.Make(whole(c.top), whole(c.low)); !same(a, frac(c.wantTop, c.wantLow)) || e != api.OK {
			t.Errorf("Make(%d, %d): %v, %d", c.top, c.low, a, e)
		}
	}
	r := rand.New(rand.NewSource(2))
	for range 4000 {
		top, low, both := someNum(r, 6), someNum(r, 6), toBig(someNum(r, 3))
		if r.Intn(2) == 0 {
			top, low = fromBig(new(big.Int).Mul(toBig(top), both)), fromBig(new(big.Int).Mul(toBig(low), both))
		}
		if len(low.D) == 0 {
			continue
		}
		a, e := fracs.Make(top, low)
		if e != api.OK {
			t.Fatalf("Make(%v, %v): %d", top, low, e)
		}
		holds(t, "Make", a, new(big.Rat).SetFrac(toBig(top), toBig(low)))
	}
}

// P2.2, of what makes no fraction.
func TestMakeOfWhatIsNone(t *testing.T) {
	for _, top := range []api.Num{num(), num(1), below(5, 1)} {
		for _, nought := range []api.Num{{}, {D: []uint32{}}} {
			if a, e := fracs.Make(top, nought); !isZeroValue(a) || e != api.ErrZero {
				t.Errorf("Make(%v, 0): %v, %d", top, a, e)
			}
		}
	}
	for _, bad := range numsThatMayNotBe() {
		for _, c := range [][2]api.Num{{bad, num(2)}, {num(2), bad}, {num(), bad}, {bad, num()}, {bad, bad}} {
			if a, e := fracs.Make(c[0], c[1]); !isZeroValue(a) || e != api.ErrArg {
				t.Errorf("Make(%v, %v): %v, %d", c[0], c[1], a, e)
			}
		}
	}
}

// P2.2
func TestOf(t *testing.T) {
	for _, n := range []int64{0, 1, -1, 2, 999999999, 1000000000, -1000000005, math.MaxInt64, math.MinInt64} {
		if a := fracs.Of(n); !same(a, frac(n, 1)) || !fracs.Check(a) {
			t.Errorf("Of(%d): %v", n, a)
		}
	}
}

// P2.3
func TestCmpAndSign(t *testing.T) {
	rising := []api.Frac{
		{Top: below(0, 0, 0, 1), Low: num(7)}, frac(-1000000000, 1), frac(-3, 2), frac(-4, 3), frac(-1, 1), frac(-999999999, 1000000000), frac(-1, 2), frac(-1, 3), {Top: below(1), Low: num(0, 0, 0, 1)},
		frac(0, 1), {Top: num(1), Low: num(0, 0, 0, 1)}, frac(1, 1000000000), frac(1, 999999999), frac(1, 3), frac(2, 5), frac(1, 2), frac(3, 5), frac(2, 3), frac(3, 4), frac(1, 1), frac(4, 3), frac(3, 2), frac(2, 1), frac(1000000000, 1), {Top: num(0, 0, 0, 1), Low: num(7)},
	}
	for i, a := range rising {
		for j, b := range rising {
			want := 0
			if i < j {
				want = -1
			} else if i > j {
				want = 1
			}
			if n := fracs.Cmp(a, b); n != want {
				t.Errorf("Cmp(%v, %v): %d", a, b, n)
			}
		}
		if n := fracs.Sign(a); n != toRat(a).Sign() {
			t.Errorf("Sign(%v): %d", a, n)
		}
	}
	r := rand.New(rand.NewSource(3))
	for range 4000 {
		a, b := someFrac(r), someFrac(r)
		if n := fracs.Cmp(a, b); n != toRat(a).Cmp(toRat(b)) {
			t.Errorf("Cmp(%v, %v): %d", a, b, n)
		}
		if n := fracs.Cmp(a, a); n != 0 {
			t.Errorf("Cmp(%v, the same): %d", a, n)
		}
		if n := fracs.Sign(a); n != toRat(a).Sign() || n != fracs.Cmp(a, fracs.Of(0)) {
			t.Errorf("Sign(%v): %d", a, n)
		}
	}
}

// P2.3
func TestWhole(t *testing.T) {
	for _, a := range []api.Frac{frac(0, 1), frac(1, 1), frac(-1, 1), frac(6, 1), {Top: below(0, 0, 1), Low: num(1)}} {
		if !fracs.Whole(a) {
			t.Errorf("%v is whole", a)
		}
	}
	for _, a := range []api.Frac{frac(1, 2), frac(-3, 2), frac(1, 1000000000), {Top: num(2), Low: num(1, 1)}, {Top: num(7), Low: num(0, 1)}} {
		if fracs.Whole(a) {
			t.Errorf("%v is not whole", a)
		}
	}
}

// P2.4
func TestAddSubMulDiv(t *testing.T) {
	for _, c := range []struct {
		what      string
		got, want api.Frac
	}{
		{"1/2 + 1/3", fracs.Add(frac(1, 2), frac(1, 3)), frac(5, 6)},
		{"1/2 + 1/2", fracs.Add(frac(1, 2), frac(1, 2)), frac(1, 1)},
		{"1/6 + 1/10", fracs.Add(frac(1, 6), frac(1, 10)), frac(4, 15)},
		{"1/6 + -1/6", fracs.Add(frac(1, 6), frac(-1, 6)), frac(0, 1)},
		{"1/4 + 1/12", fracs.Add(frac(1, 4), frac(1, 12)), frac(1, 3)},
		{"-2 + 1/2", fracs.Add(frac(-2, 1), frac(1, 2)), frac(-3, 2)},
		{"0 + -1/2", fracs.Add(frac(0, 1), frac(-1, 2)), frac(-1, 2)},
		{"1/2 - 1/2", fracs.Sub(frac(1, 2), frac(1, 2)), frac(0, 1)},
		{"1/3 - 1/2", fracs.Sub(frac(1, 3), frac(1, 2)), frac(-1, 6)},
		{"0 - -1/2", fracs.Sub(frac(0, 1), frac(-1, 2)), frac(1, 2)},
		{"3/4 - 1/12", fracs.Sub(frac(3, 4), frac(1, 12)), frac(2, 3)},
		{"2/3 * 3/2", fracs.Mul(frac(2, 3), frac(3, 2)), frac(1, 1)},
		{"-2/3 * 9/4", fracs.Mul(frac(-2, 3), frac(9, 4)), frac(-3, 2)},
		{"-1/2 * -1/2", fracs.Mul(frac(-1, 2), frac(-1, 2)), frac(1, 4)},
		{"0 * -7/3", fracs.Mul(frac(0, 1), frac(-7, 3)), frac(0, 1)},
		{"-7/3 * 0", fracs.Mul(frac(-7, 3), frac(0, 1)), frac(0, 1)},
		{"1/2 / -2", quotient(t, frac(1, 2), frac(-2, 1)), frac(-1, 4)},
		{"-1/2 / -1/4", quotient(t, frac(-1, 2), frac(-1, 4)), frac(2, 1)},
		{"0 / -7/3", quotient(t, frac(0, 1), frac(-7, 3)), frac(0, 1)},
		{"6 / 4", quotient(t, frac(6, 1), frac(4, 1)), frac(3, 2)},
		{"2/3 / -2/3", quotient(t, frac(2, 3), frac(-2, 3)), frac(-1, 1)},
	} {
		if !same(c.got, c.want) {
			t.Errorf("%s: %v", c.what, c.got)
		}
	}
	r := rand.New(rand.NewSource(4))
	for range 6000 {
		a, b := someFrac(r), someFrac(r)
		x, y := toRat(a), toRat(b)
		holds(t, "Add", fracs.Add(a, b), new(big.Rat).Add(x, y))
		holds(t, "Sub", fracs.Sub(a, b), new(big.Rat).Sub(x, y))
		holds(t, "Mul", fracs.Mul(a, b), new(big.Rat).Mul(x, y))
		if y.Sign() != 0 {
			holds(t, "Div", quotient(t, a, b), new(big.Rat).Quo(x, y))
		}
	}
}

// P2.4, what Div can't divide.
func TestDivErrors(t *testing.T) {
	for _, a := range []api.Frac{frac(0, 1), frac(1, 1), frac(-3, 2)} {
		if q, e := fracs.Div(a, frac(0, 1)); !isZeroValue(q) || e != api.ErrZero {
			t.Errorf("Div(%v, 0): %v, %d", a, q, e)
		}
	}
	for _, bad := range mayNotBe() {
		for _, c := range [][2]api.Frac{{bad, frac(1, 2)}, {frac(1, 2), bad}, {frac(0, 1), bad}, {bad, frac(0, 1)}, {bad, bad}} {
			if q, e := fracs.Div(c[0], c[1]); !isZeroValue(q) || e != api.ErrArg {
				t.Errorf("Div(%v, %v): %v, %d", c[0], c[1], q, e)
			}
		}
	}
}

// P2.3, P2.4, P2.5, of fractions that may not be: they are 0.
func TestWhatMayNotBeIsNought(t *testing.T) {
	half, less := frac(1, 2), frac(-1, 2)
	for _, a := range mayNotBe() {
		if fracs.Sign(a) != 0 || fracs.Cmp(a, frac(0, 1)) != 0 || fracs.Cmp(a, half) != -1 || fracs.Cmp(half, a) != 1 || fracs.Cmp(a, less) != 1 || fracs.Cmp(less, a) != -1 || fracs.Cmp(a, a) != 0 {
			t.Errorf("%v is not 0", a)
		}
		if !fracs.Whole(a) {
			t.Errorf("Whole(%v)", a)
		}
		if x, y := fracs.Add(a, half), fracs.Add(half, a); !same(x, half) || !same(y, half) {
			t.Errorf("Add of %v: %v %v", a, x, y)
		}
		if x, y := fracs.Sub(a, half), fracs.Sub(half, a); !same(x, less) || !same(y, half) {
			t.Errorf("Sub of %v: %v %v", a, x, y)
		}
		if x, y := fracs.Mul(a, half), fracs.Mul(half, a); !same(x, frac(0, 1)) || !same(y, frac(0, 1)) {
			t.Errorf("Mul of %v: %v %v", a, x, y)
		}
		if x, y, z := fracs.Add(a, a), fracs.Sub(a, a), fracs.Mul(a, a); !same(x, frac(0, 1)) || !same(y, frac(0, 1)) || !same(z, frac(0, 1)) {
			t.Errorf("of %v and itself: %v %v %v", a, x, y, z)
		}
		if s := fracs.Text(a); s != "0" {
			t.Errorf("Text(%v): %s", a, s)
		}
	}
}

// digits: a number of so many of them.
func digits(n int) string { return strings.Repeat("7", n) }

// P2.5
func TestText(t *testing.T) {
	for _, c := range []struct {
		a api.Frac
		s string
	}{
		{frac(-1, 2), "-1/2"}, {frac(3, 1), "3"}, {frac(0, 1), "0"}, {frac(1, 1), "1"}, {frac(-1, 1), "-1"}, {frac(3, 2), "3/2"}, {frac(1, 10), "1/10"}, {frac(-1000000005, 1000000000), "-200000001/200000000"},
		{api.Frac{Top: below(0, 1), Low: num(1, 0, 2)}, "-1000000000/2000000000000000001"},
	} {
		a := fromRat(toRat(c.a))
		if s := fracs.Text(a); s != c.s {
			t.Errorf("Text(%v): %s", a, s)
		}
		if b, e := fracs.Parse(c.s); !same(b, a) || e != api.OK {
			t.Errorf("Parse(%s): %v, %d", c.s, b, e)
		}
	}
	noughts := make([]uint32, 50) // more digits than are read
	a := api.Frac{Top: below(append(slices.Clone(noughts), 1)...), Low: num(append([]uint32{1}, append(noughts, 3)...)...)}
	if s := fracs.Text(a); s != "-1"+strings.Repeat("0", 450)+"/3"+strings.Repeat("0", 458)+"1" {
		t.Errorf("Text: %s", s)
	}
}

// P2.5
func TestParse(t *testing.T) {
	for _, c := range []struct {
		s        string
		top, low int64
	}{
		{"6/4", 3, 2}, {"-6/4", -3, 2}, {"0/7", 0, 1}, {"0/1", 0, 1}, {"0", 0, 1}, {"4/2", 2, 1}, {"-4/4", -1, 1}, {"1/1", 1, 1}, {"12/1", 12, 1}, {"-12", -12, 1}, {"10/100", 1, 10}, {"1000000000/3000000000", 1, 3},
	} {
		if a, e := fracs.Parse(c.s); !same(a, frac(c.top, c.low)) || e != api.OK {
			t.Errorf("Parse(%s): %v, %d", c.s, a, e)
		}
	}
	most := "1" + strings.Repeat("0", api.MaxDigits-1)
	for _, s := range []string{digits(api.MaxDigits), "-" + digits(api.MaxDigits), most + "/" + digits(api.MaxDigits), "-" + most + "/3", "-7/" + most, digits(api.MaxDigits) + "/" + digits(api.MaxDigits)} {
		want, _ := new(big.Rat).SetString(s)
		a, e := fracs.Parse(s)
		if e != api.OK {
			t.Errorf("Parse(%.30q): %d", s, e)
		}
		holds(t, "Parse", a, want)
	}
}

// P2.5
func TestParseOfWhatIsNone(t *testing.T) {
	many := digits(api.MaxDigits + 1)
	for _, s := range []string{
		"", "-", "-0", "/", "1/", "/1", "-/1", "1/-", "1/0", "0/0", "-1/0", "1/-2", "-1/-2", "1/-0", "-0/1", "1/02", "1/00", "01/2", "00/1", "+1/2", "1/+2", "--1/2", "1//2", "1/2/3", "1/2/", "/1/2", "1/1/1",
		" 1/2", "1/2 ", "1 /2", "1/ 2", "1\t/2", "1/2\n", "1.5", "1/x", "x/1", "x", "1:2", "1\\2", "1e2", "0x1/2", "1_0/3", "\x001/2", "1/2\x00", "\xff/1", "1⁄2", "½", "−1/2", "1/٣",
		many + "/0", many + "/", many + "/-1", many + "/x", many + "/02", "/" + many, "x/" + many, "-0/" + many, "01/" + many, "1/-" + many, "1/0" + many, "0" + many + "/2", many + "/-" + many, many + "/1/1",
	} {
		if a, e := fracs.Parse(s); !isZeroValue(a) || e != api.ErrForm {
			t.Errorf("Parse(%.30q): %v, %d", s, a, e)
		}
	}
	for _, s := range []string{many, "-" + many, many + "/1", "-" + many + "/3", "1/" + many, "0/" + many, "-1/" + many, many + "/" + many, digits(100000) + "/" + digits(100000)} {
		if a, e := fracs.Parse(s); !isZeroValue(a) || e != api.ErrLimit {
			t.Errorf("Parse(%.30q): %v, %d", s, a, e)
		}
	}
}

// P2.6
func TestLaws(t *testing.T) {
	r := rand.New(rand.NewSource(6))
	nought, one := fracs.Of(0), fracs.Of(1)
	for range 2000 {
		a, b, c := someFrac(r), someFrac(r), someFrac(r)
		for _, l := range []struct {
			law  string
			x, y api.Frac
		}{
			{"a + b = b + a", fracs.Add(a, b), fracs.Add(b, a)},
			{"(a + b) + c = a + (b + c)", fracs.Add(fracs.Add(a, b), c), fracs.Add(a, fracs.Add(b, c))},
			{"a + 0 = a", fracs.Add(a, nought), a},
			{"a - a = 0", fracs.Sub(a, a), nought},
			{"(a - b) + b = a", fracs.Add(fracs.Sub(a, b), b), a},
			{"a - b = 0 - (b - a)", fracs.Sub(a, b), fracs.Sub(nought, fracs.Sub(b, a))},
			{"a b = b a", fracs.Mul(a, b), fracs.Mul(b, a)},
			{"(a b) c = a (b c)", fracs.Mul(fracs.Mul(a, b), c), fracs.Mul(a, fracs.Mul(b, c))},
			{"a (b + c) = a b + a c", fracs.Mul(a, fracs.Add(b, c)), fracs.Add(fracs.Mul(a, b), fracs.Mul(a, c))},
			{"1 a = a", fracs.Mul(one, a), a},
			{"a / 1 = a", quotient(t, a, one), a},
		} {
			if !same(l.x, l.y) || !mayBe(l.x) || !fracs.Check(l.x) {
				t.Errorf("%s: %v %v, of %v %v %v", l.law, l.x, l.y, a, b, c)
			}
		}
		if fracs.Sign(b) != 0 {
			if q := quotient(t, a, b); !same(fracs.Mul(q, b), a) || !same(q, fracs.Mul(a, quotient(t, one, b))) {
				t.Errorf("a / b times b = a: %v of %v %v", q, a, b)
			}
		}
		if n := fracs.Cmp(a, b); n != fracs.Sign(fracs.Sub(a, b)) || n != -fracs.Cmp(b, a) {
			t.Errorf("Cmp(%v, %v): %d", a, b, n)
		}
		s := fracs.Text(a)
		if back, e := fracs.Parse(s); s != toRat(a).RatString() || !same(back, a) || e != api.OK {
			t.Errorf("%s is read as %v, %d", s, back, e)
		}
	}
}

// roomy: the number, with spare room behind its parts, which all hold 77.
func roomy(a api.Num) api.Num {
	l := append(slices.Clone(a.D), slices.Repeat([]uint32{77}, 8)...)
	return api.Num{Neg: a.Neg, D: l[:len(a.D)]}
}

// untouched: is the roomy number that one still, and its spare room as it was?
func untouched(a, was api.Num) bool {
	n := len(was.D)
	return sameNum(a, was) && slices.Equal(a.D[:n+8][n:], slices.Repeat([]uint32{77}, 8))
}

// fill writes over all that a list has room for.
func fill(a api.Num) {
	l := a.D[:cap(a.D)]
	for i := range l {
		l[i] = 123
	}
}

// copied: the same, in memory of its own.
func copied(a api.Frac) api.Frac {
	return api.Frac{Top: api.Num{Neg: a.Top.Neg, D: slices.Clone(a.Top.D)}, Low: api.Num{Neg: a.Low.Neg, D: slices.Clone(a.Low.D)}}
}

// R4, R5: what is handed in stays as it was, spare room too; an answer shares no memory with it, nor with an answer of the same call before, nor its two numbers with one another.
func TestAnswersAreNewMemory(t *testing.T) {
	values := []api.Frac{frac(0, 1), frac(1, 1), frac(-1, 1), frac(5, 1), frac(1000000005, 1), frac(-1, 2), frac(1, 2), frac(3, 1000000000), {Top: num(1, 2, 3, 4), Low: num(0, 0, 5)}, {Top: below(1), Low: num(9, 9, 8)}, {}, frac(2, 4)}
	for what, f := range map[string]func(a, b api.Frac) api.Frac{
		"Add": fracs.Add, "Sub": fracs.Sub, "Mul": fracs.Mul,
		"Div":  func(a, b api.Frac) api.Frac { x, _ := fracs.Div(a, b); return x },
		"Make": func(a, b api.Frac) api.Frac { x, _ := fracs.Make(a.Top, b.Top); return x },
		"Cmp":  func(a, b api.Frac) api.Frac { return fracs.Of(int64(fracs.Cmp(a, b))) },
		"Text": func(a, b api.Frac) api.Frac { x, _ := fracs.Parse(fracs.Text(a)); return x },
		"Sign": func(a, b api.Frac) api.Frac { return fracs.Of(int64(fracs.Sign(a))) },
	} {
		for _, u := range values {
			for _, v := range values {
				a, b := api.Frac{Top: roomy(u.Top), Low: roomy(u.Low)}, api.Frac{Top: roomy(v.Top), Low: roomy(v.Low)}
				first, second := f(a, b), f(a, b)
				was := copied(second)
				if !same(first, was) {
					t.Errorf("%s(%v, %v): %v, then %v", what, u, v, first, was)
				}
				fill(first.Top)
				if !sameNum(first.Low, was.Low) {
					t.Errorf("%s(%v, %v): both numbers share memory", what, u, v)
				}
				fill(first.Low)
				if !same(second, was) || !same(f(a, b), was) {
					t.Errorf("%s(%v, %v): answers share memory", what, u, v)
				}
				if !untouched(a.Top, u.Top) || !untouched(a.Low, u.Low) || !untouched(b.Top, v.Top) || !untouched(b.Low, v.Low) {
					t.Errorf("%s(%v, %v): what was handed in is changed", what, u, v)
				}
			}
		}
	}
}
