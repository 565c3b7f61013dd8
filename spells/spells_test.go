package spells_test

import (
	"math/big"
	"math/rand"
	"slices"
	"strconv"
	"strings"
	"testing"
	"time"

	"reckoner/api"
	"reckoner/polys"
	"reckoner/spells"
)

// sameNum: are both one number, part by part?
func sameNum(a, b api.Num) bool { return a.Neg == b.Neg && slices.Equal(a.D, b.D) }

// sameTerm: are both one term, part by part?
func sameTerm(a, b api.Term) bool {
	return a.M == b.M && sameNum(a.C.Top, b.C.Top) && sameNum(a.C.Low, b.C.Low)
}

// same: are both one sum, part by part?
func same(p, q api.Poly) bool { return slices.EqualFunc(p, q, sameTerm) }

// short: the text, or how it begins.
func short(s string) string {
	if len(s) > 100 {
		return strconv.Quote(s[:100]) + "… of " + strconv.Itoa(len(s)) + " bytes"
	}
	return strconv.Quote(s)
}

// reads fails the test, if the text is read otherwise than as that sum.
func reads(t *testing.T, s string, want api.Poly) {
	t.Helper()
	p, e := spells.Parse(s)
	if !same(p, want) || e != api.OK || !polys.Check(p) {
		t.Errorf("Parse(%s): %s, %d, not %s", short(s), short(spells.Text(p)), e, short(spells.Text(want)))
	}
}

// refuses fails the test, if the text is read, or anything but that error is told.
func refuses(t *testing.T, s string, want api.Errno) {
	t.Helper()
	if p, e := spells.Parse(s); len(p) != 0 || e != want {
		t.Errorf("Parse(%s): %s, %d, not %d", short(s), short(spells.Text(p)), e, want)
	}
}

// P6.1: Text, of sums that may be.
func TestText(t *testing.T) {
	for _, c := range []struct {
		p    api.Poly
		text string
	}{
		{nil, "0"},
		{api.Poly{}, "0"},
		{api.Poly{term("3", api.Mono{2, 1}), term("-1/2", api.Mono{0, 0, 1}), term("7", api.Mono{})}, "3 x^2 y - 1/2 z + 7"},
		{api.Poly{term("-1", api.Mono{1}), term("1", api.Mono{})}, "-x + 1"},
		{api.Poly{term("1", api.Mono{})}, "1"},
		{api.Poly{term("-1", api.Mono{})}, "-1"},
		{api.Poly{term("1", api.Mono{1, 1, 1, 1})}, "x y z t"},
		{api.Poly{term("-1", api.Mono{1, 0, 0, 2}), term("-1", api.Mono{})}, "-x t^2 - 1"},
		{api.Poly{term("1/3", api.Mono{0, 0, 0, 10})}, "1/3 t^10"},
		{api.Poly{term("-10/3", api.Mono{0, 65535, 1})}, "-10/3 y^65535 z"},
		{api.Poly{term("11", api.Mono{11}), term("-11", api.Mono{1}), term("-1/11", api.Mono{0, 1}), term("1000000000", api.Mono{})}, "11 x^11 - 11 x - 1/11 y + 1000000000"},
		{api.Poly{term("100000000000000000000000000000/3", api.Mono{})}, "100000000000000000000000000000/3"},
	} {
		if text := spells.Text(c.p); text != c.text {
			t.Errorf("Text(%v): %s, not %s", c.p, text, c.text)
		}
	}
}

// P6.1: Text, of sums that may not be.
func TestTextOfWhatMayNotBe(t *testing.T) {
	for _, p := range sumsThatMayNotBe() {
		if text := spells.Text(p); text != "0" {
			t.Errorf("Text(%v): %s", p, text)
		}
	}
}

// P6.1: Text is what the chapter's words make of a sum; P6.2: and is read as it.
func TestTextOfSome(t *testing.T) {
	r := rand.New(rand.NewSource(61))
	for range 4000 {
		s := some(r, 6, []int{2, 12, api.MaxPower}[r.Intn(3)])
		text := spells.Text(s.sum())
		if text != s.text() {
			t.Errorf("Text: %s, not %s", text, s.text())
		}
		reads(t, text, s.sum())
	}
}

// P6.1: Parse, of texts of sums.
func TestParse(t *testing.T) {
	for s, want := range map[string]string{
		"1 - x + x": "1", "1/2x": "1/2 x", "6/4 y^2": "3/2 y^2", "2 3 x": "6 x", "xyxx": "x^3 y",
		"0": "0", "-0": "0", "0/7": "0", "0 x": "0", "x*0": "0", "- 0 + 0": "0", "x - x": "0", "1/2 - 2/4": "0",
		"x": "x", "-x": "-x", "- x": "-x", " \t- \t x \t": "-x", "\tx\t": "x", " 5 ": "5",
		"t z y x": "x y z t", "tzyx": "x y z t", "x2": "2 x", "x 2y": "2 x y", "x^2 3": "3 x^2", "x^23": "x^23", "x^2x^3": "x^5", "x^2 x^3": "x^5", "x^2*3": "3 x^2",
		"23x": "23 x", "2*3": "6", "2 * 3": "6", "2 3": "6", "2\t3": "6", "1/2 3": "3/2", "1/23": "1/23", "1/2*3/4": "3/8", "1/2 3/4": "3/8", "2/3x4/5": "8/15 x", "3/1": "3", "100/10": "10", "10 01/1": "!",
		"1+2": "3", "1-2": "-1", "1 -2": "-1", "1- 2": "-1", "1+x": "x + 1", "x+y-z": "x + y - z", "x+x": "2 x", "x y + y x": "2 x y", "-x-x": "-2 x", "-2 -3 -4": "-9",
		"y + x": "x + y", "1 + t + z + y + x": "x + y + z + t + 1", "x^9 + x^10": "x^10 + x^9", "x y + x^2": "x^2 + x y",
		"x^1": "x", "x^1000": "x^1000", "x^1000 x^1000": "x^2000", "1000000000 x": "1000000000 x", "1/3 + 1/6": "1/2", "2x*y x - 3": "2 x^2 y - 3",
	} {
		p, e := spells.Parse(s)
		if text := spells.Text(p); want == "!" && e != api.ErrForm || want != "!" && (text != want || e != api.OK || !polys.Check(p)) {
			t.Errorf("Parse(%q): %s, %d, not %s", s, text, e, want)
		}
	}
}

// P6.1: Parse, of texts that are no sum's.
func TestParseOfNoSums(t *testing.T) {
	for _, s := range []string{
		"", " ", "\t", "-", "+", "*", "- ", "+x", "--x", "- -x", "-+x", "*x", "x*", "x * ", "x+", "x -", "x**y", "x* *y", "x+*y", "x*+y", "x*-y", "x*-3", "x + -3", "x - -y", "x + + y", "x + y +", "2x*y x + -3",
		"x^0", "x^", "x^ 2", "x ^2", "x^-1", "x^01", "x^00", "x^+1", "x^y", "x^2^3", "x^1/2", "x^(2)", "^2", "^", "2^3",
		"1/0", "1/", "/2", "1 /2", "1/ 2", "1/-2", "1/02", "1/00", "01", "00", "01/2", "007", "0x1/01", "1/2/3", "x/2", "1/x", "0/0", "0 0 00", "x 01", "x 1/0",
		"w", "X", "a", "xyw", "x,y", "x.y", "1.5", "1e5", "1_0", "(x)", "x=y", "x\n", "\nx", "x\r", "x\v+y", "x\x00", "\x00", "x+\x00y", "0\x00", "x\u2003y", "x\u00a0y", "\u00d7", "−x", "x²", "١", "\xff", "x\xff", "２",
	} {
		refuses(t, s, api.ErrForm)
	}
}

// P6.1: every byte alone, and behind a letter, a digit and a sign.
func TestParseOfBytes(t *testing.T) {
	for c := range 256 {
		for _, ahead := range []string{"", "x", "1", "0", "x+", "x^", "1/", " ", "2*"} {
			for _, behind := range []string{"", "y", "7", " "} {
				holdsToWords(t, ahead+string([]byte{byte(c)})+behind)
			}
		}
	}
}

// holdsToWords fails the test, if the text is read otherwise than the chapter's words say.
func holdsToWords(t *testing.T, s string) {
	t.Helper()
	want, wrong := meant(s)
	p, e := spells.Parse(s)
	if !same(p, want.sum()) || e != wrong {
		t.Errorf("Parse(%q): %s, %d, not %s, %d", s, short(spells.Text(p)), e, short(want.text()), wrong)
	}
}

// P6.1: Parse goes by the chapter's words; P6.2: what is read, and written, is read as the same.
func TestParseOfSome(t *testing.T) {
	r := rand.New(rand.NewSource(62))
	read := map[api.Errno]int{}
	for range 30000 {
		s := someText(r)
		holdsToWords(t, s)
		p, e := spells.Parse(s)
		if read[e]++; e == api.OK && !slices.ContainsFunc(p, func(u api.Term) bool { return slices.Max(u.M[:]) > api.MaxPower }) {
			reads(t, spells.Text(p), p)
		}
	}
	if read[api.OK] < 5000 || read[api.ErrForm] < 5000 || read[api.ErrLimit] < 100 {
		t.Errorf("too few of a kind: %v", read)
	}
}

// P6.1: MaxText, of which a form that is wrong says nothing.
func TestParseOfLongTexts(t *testing.T) {
	reads(t, strings.Repeat(" ", api.MaxText-1)+"x", api.Poly{term("1", api.Mono{1})})
	reads(t, "x"+strings.Repeat("\t", api.MaxText-1), api.Poly{term("1", api.Mono{1})})
	refuses(t, strings.Repeat(" ", api.MaxText)+"x", api.ErrLimit)
	refuses(t, strings.Repeat(" ", api.MaxText+1), api.ErrLimit)
	refuses(t, strings.Repeat(" ", api.MaxText), api.ErrForm)
	refuses(t, strings.Repeat("w", api.MaxText+1), api.ErrLimit)
	refuses(t, strings.Repeat("w", api.MaxText), api.ErrForm)
	refuses(t, strings.Repeat("+", api.MaxText), api.ErrForm)
	refuses(t, strings.Repeat("1", api.MaxText), api.ErrLimit)
	refuses(t, strings.Repeat("0", api.MaxText), api.ErrForm)
}

// P6.1: MaxDigits of a number, of both numbers of a fraction, on either side.
func TestParseOfGreatNumbers(t *testing.T) {
	most := strings.Repeat("7", api.MaxDigits)
	below := "1" + strings.Repeat("0", api.MaxDigits-1)
	for _, s := range []string{most, most + " x", "1/" + most, most + "/" + below, "-" + most + "/" + below + " t + 1", most + " " + below} {
		want, _ := meant(s)
		reads(t, s, want.sum())
	}
	for _, s := range []string{most + "0", below + "0", "1/" + most + "1", most + "1/" + below + "0", most + "/" + below + "0", most + "0/" + below, "x + " + most + "0 y", "0 " + most + "0", most + most + most, "x^" + most + "0", "x^" + most} {
		refuses(t, s, api.ErrLimit)
	}
}

// P6.1: a form that is wrong goes ahead of every limit, wherever it stands.
func TestParseTellsFormFirst(t *testing.T) {
	over := []string{strings.Repeat("9", api.MaxDigits+1), "1/" + strings.Repeat("9", api.MaxDigits+1), "x^1001", "x^18446744073709551617", strings.Repeat("x^1000", 66)}
	for _, s := range over {
		refuses(t, s, api.ErrLimit)
		for _, wrong := range []string{s + " +", "+ " + s, s + " w", "1/0 " + s, s + " 1/0", s + " x^0", s + " 01", "x^ " + s, s + "/0", s + "^", s + " + -1", s + "\n"} {
			refuses(t, wrong, api.ErrForm)
		}
	}
	refuses(t, "0"+over[0], api.ErrForm)
	refuses(t, "x^0"+over[0], api.ErrForm)
	refuses(t, "1/0"+over[0], api.ErrForm)
}

// P6.1: MaxPower of a letter, and 65535 of one in a term.
func TestParseOfManyLetters(t *testing.T) {
	for i, letter := range []string{"x", "y", "z", "t"} {
		var m api.Mono
		m[i] = api.MaxPower
		reads(t, letter+"^1000", api.Poly{term("1", m)})
		for _, power := range []string{"1001", "10000", "65535", "65536", "66536", "4294967297", "9223372036854775807", "9223372036854775808", "18446744073709551617"} {
			refuses(t, letter+"^"+power, api.ErrLimit)
			refuses(t, "0 "+letter+"^"+power, api.ErrLimit)
		}
		m[i] = mostOf
		most := strings.Repeat(letter+"^1000 ", 65) + letter + "^535"
		reads(t, most, api.Poly{term("1", m)})
		reads(t, "-"+most+" + "+most+" + "+most, api.Poly{term("1", m)})
		for _, s := range []string{most + letter, letter + " " + most, letter + "*" + most, "0 " + letter + most, "1 + " + most + " 2 " + letter, most + most, strings.Repeat(letter+"^1000", 9000)} {
			refuses(t, s, api.ErrLimit)
		}
	}
	all := strings.Repeat("x^1000 y^1000 z^1000 t^1000 ", 65) + "x^535 y^535 z^535 t^535"
	reads(t, all, api.Poly{term("1", api.Mono{mostOf, mostOf, mostOf, mostOf})})
}

// P6.1: long texts are read soon: likes, and factors, whose numbers grow without end.
func TestParseIsQuick(t *testing.T) {
	began := time.Now()
	reads(t, strings.Repeat("x+", api.MaxText/2-1)+"xx", api.Poly{term("1", api.Mono{2}), term("32767", api.Mono{1})})
	nines := new(big.Rat).SetInt(new(big.Int).Exp(big.NewInt(9), big.NewInt(api.MaxText/2), nil))
	reads(t, strings.Repeat("9 ", api.MaxText/2), api.Poly{{C: frac(nines)}})
	text, sum := "1", plain{}
	sum.put(big.NewRat(1, 1), api.Mono{})
	for n := int64(10007); len(text) < 20000; n += 2 {
		text += "+1/" + strconv.FormatInt(n, 10)
		sum.put(big.NewRat(1, n), api.Mono{})
	}
	reads(t, text, sum.sum())
	if d := time.Since(began); d > time.Minute {
		t.Errorf("%v", d)
	}
}

// P6.2: a sum whose digits or powers are too many is written, and not read.
func TestTextThatIsNotRead(t *testing.T) {
	most := strings.Repeat("9", api.MaxDigits)
	for text, p := range map[string]api.Poly{
		"x^1001":          {term("1", api.Mono{1001})},
		most + "9":        {term(most+"9", api.Mono{})},
		"1/" + most + "9": {term("1/"+most+"9", api.Mono{})},
	} {
		if got := spells.Text(p); got != text {
			t.Errorf("Text: %s, not %s", short(got), short(text))
		}
		refuses(t, text, api.ErrLimit)
	}
	reads(t, "-"+most+" x^1000", api.Poly{term("-"+most, api.Mono{1000})})
}

// R4, R5: what is handed in to Text stays as it was, spare room too; what Parse answers shares memory with no other answer, nor its lists with one another.
func TestAnswersAreNewMemory(t *testing.T) {
	for _, p := range append(sumsThatMayNotBe(), some(rand.New(rand.NewSource(63)), 9, 3).sum(), api.Poly{term("-1", api.Mono{1}), term("-1/2", api.Mono{})}) {
		roomy := append(slices.Clone(p), term("77", api.Mono{77}))
		for i, u := range roomy {
			roomy[i].C.Top.D = append(slices.Clone(u.C.Top.D), 77)[:len(u.C.Top.D)]
			roomy[i].C.Low.D = append(slices.Clone(u.C.Low.D), 78)[:len(u.C.Low.D)]
		}
		text := spells.Text(roomy[:len(p)])
		if again := spells.Text(roomy[:len(p)]); again != text {
			t.Errorf("Text(%v): %s, then %s", p, text, again)
		}
		for i, u := range roomy {
			if i < len(p) && !sameTerm(u, p[i]) || i == len(p) && !sameTerm(u, term("77", api.Mono{77})) || u.C.Top.D[:len(u.C.Top.D)+1][len(u.C.Top.D)] != 77 || u.C.Low.D[:len(u.C.Low.D)+1][len(u.C.Low.D)] != 78 {
				t.Errorf("Text(%v): what was handed in is changed", p)
			}
		}
	}
	for _, s := range []string{"1", "x", "-x", "2 x", "1/2 x - 7/3", "x + y + z + t + 1", "x + x", "x - x", "3 4 5/7 x 1/1"} {
		p, _ := spells.Parse(s)
		q, _ := spells.Parse(s)
		var parts [][]uint32
		for _, u := range p {
			parts = append(parts, u.C.Top.D, u.C.Low.D)
		}
		for i, d := range parts {
			for k := range d[:cap(d)] {
				d[:cap(d)][k] = uint32(i)
			}
		}
		for i, d := range parts {
			if slices.ContainsFunc(d[:cap(d)], func(n uint32) bool { return n != uint32(i) }) {
				t.Errorf("Parse(%q): two lists share memory", s)
			}
		}
		for i := range p[:cap(p)] {
			p[:cap(p)][i] = api.Term{}
		}
		want, _ := meant(s)
		if reads(t, s, want.sum()); !same(q, want.sum()) {
			t.Errorf("Parse(%q): answers share memory", s)
		}
	}
}
