package tests

import (
	"fmt"
	"math"
	"math/big"
	"math/rand"
	"regexp"
	"slices"
	"strconv"
	"strings"
	"testing"

	"loop.example/g00382/impl"
)

// mostTen is the greatest E of a decimal number.
const mostTen = 2 * impl.MaxTen

// tenless takes the powers of ten out of n times 10^e.
func tenless(n *big.Int, e int) (*big.Int, int) {
	if n.Sign() == 0 {
		return n, 0
	}
	for {
		less, rest := new(big.Int).QuoRem(n, big.NewInt(10), new(big.Int))
		if rest.Sign() != 0 {
			return n, e
		}
		n, e = less, e+1
	}
}

// dec is n times 10^e, written as its chapter wants it, whether it may be told or not, with spare room behind its limbs.
func dec(n *big.Int, e int) impl.Dec {
	d, e := tenless(n, e)
	return impl.Dec{Neg: n.Sign() < 0, D: nat(new(big.Int).Abs(d)), E: e}
}

func decInt(n int, e int) impl.Dec { return dec(big.NewInt(int64(n)), e) }

var minusNoughtDec = impl.Dec{Neg: true}

func oppositeDec(d impl.Dec) impl.Dec {
	d.Neg = !d.Neg
	return d
}

// decTellable says whether n times 10^e may be told.
func decTellable(n *big.Int, e int) bool {
	d, e := tenless(n, e)
	return d.BitLen() <= natBits && e >= -mostTen && e <= mostTen
}

// fracOfDec is the number by the document's words.
func fracOfDec(d impl.Dec) frac {
	x, y := bigOf(d.D), big.NewInt(1)
	if d.E >= 0 {
		x.Mul(x, ten(d.E))
	} else {
		y = ten(-d.E)
	}
	if d.Neg {
		x.Neg(x)
	}
	return frac{x, y}
}

func ratOfDec(d impl.Dec) *big.Rat {
	q := fracOfDec(d)
	return new(big.Rat).SetFrac(q.x, q.y)
}

func sameDec(t *testing.T, name string, got impl.Dec, want impl.Dec) {
	t.Helper()
	if got.Neg != want.Neg || got.E != want.E || bigOf(got.D).Cmp(bigOf(want.D)) != 0 {
		t.Fatalf("%s is %t %v e %d, not %t %v e %d", name, got.Neg, bigOf(got.D), got.E, want.Neg, bigOf(want.D), want.E)
	}
	if !impl.DecOk(got) {
		t.Fatalf("%s is %v, which is not DecOk", name, got)
	}
}

func refusedDec(t *testing.T, name string, got impl.Dec, ok bool) {
	t.Helper()
	if ok || got.Neg || len(got.D.L) != 0 || got.E != 0 {
		t.Fatal(name, got, ok)
	}
}

// manyDecs has both noughts, and numbers of many lengths and both signs beside powers of ten of both signs.
func manyDecs() []impl.Dec {
	source := rand.New(rand.NewSource(600))
	sizes := []*big.Int{big.NewInt(1), big.NewInt(2), big.NewInt(5), big.NewInt(9), big.NewInt(11), big.NewInt(99), big.NewInt(125), big.NewInt(65535), big.NewInt(65537),
		two(53), plus(two(53), 1), plus(ten(16), -1), plus(ten(17), 1), plus(ten(20), 1), plus(ten(21), -1), plus(ten(21), 1), plus(ten(300), 7), plus(ten(399), 1), plus(ten(400), -1), two(natBits - 1), mostNat()}
	for _, limbs := range []int{1, 2, 4, 20, 60, 100} {
		n := patterned(source, limbs)
		if n.Sign() != 0 {
			n, _ = tenless(n, 0)
			sizes = append(sizes, n)
		}
	}
	powers := []int{-mostTen, -mostTen + 1, -700, -400, -350, -342, -324, -323, -308, -100, -23, -22, -21, -17, -7, -6, -5, -3, -2, -1,
		0, 1, 2, 5, 15, 19, 20, 21, 22, 23, 100, 290, 307, 308, 309, 400, mostTen - 1, mostTen}
	list := []impl.Dec{{}, minusNoughtDec}
	for _, n := range sizes {
		for _, e := range powers {
			list = append(list, dec(n, e), dec(minus(n), e))
		}
	}
	return list
}

// someDec has some digits, and a power of ten that puts the number near 10^place.
func someDec(source *rand.Rand, digits int, place int) impl.Dec {
	count := 1 + source.Intn(digits)
	n := new(big.Int).Rand(source, ten(count))
	if source.Intn(5) == 0 {
		n = plus(ten(count), int64(source.Intn(5)-2))
	}
	if source.Intn(2) == 0 {
		n = minus(n)
	}
	e := place - count + source.Intn(5) - 2
	return dec(n, min(max(e, -mostTen), mostTen-count-1))
}

// badDecs has every way of not being DecOk.
func badDecs() []impl.Dec {
	var list []impl.Dec
	for _, neg := range []bool{false, true} {
		add := func(d impl.Nat, e int) { list = append(list, impl.Dec{Neg: neg, D: d, E: e}) }
		for _, bad := range badNats() {
			for _, e := range []int{0, 1, -1, mostTen, -mostTen} {
				add(bad, e)
			}
		}
		for _, n := range []*big.Int{big.NewInt(10), big.NewInt(20), big.NewInt(50), big.NewInt(100), big.NewInt(990), big.NewInt(65530), big.NewInt(65540), ten(20), ten(300), ten(481), plus(mostNat(), -5)} {
			for _, e := range []int{0, 1, -1, -2, 22, -22, mostTen, -mostTen} {
				add(nat(n), e)
			}
		}
		for _, e := range []int{1, -1, 2, 10, -10, mostTen, -mostTen, mostTen + 1, math.MaxInt, math.MinInt} {
			add(impl.Nat{}, e)
			add(roomyNat(), e)
		}
		for _, e := range []int{mostTen + 1, -mostTen - 1, mostTen + 2, 1 << 32, -1 << 32, math.MaxInt, math.MinInt} {
			for _, n := range []*big.Int{big.NewInt(1), big.NewInt(10), big.NewInt(65537), mostNat()} {
				add(nat(n), e)
			}
		}
		add(nat(plus(mostNat(), 2)), 0)
	}
	return list
}

func TestDecOk(t *testing.T) {
	if impl.MaxTen != 400 {
		t.Fatal(impl.MaxTen)
	}
	for _, d := range manyDecs() {
		if !impl.DecOk(d) {
			t.Fatal(d)
		}
	}
	for i, d := range badDecs() {
		if impl.DecOk(d) {
			t.Fatal(i, d)
		}
	}
	for n := range 70000 {
		for _, e := range []int{0, 1, -mostTen} {
			if impl.DecOk(impl.Dec{D: natInt(n), E: e}) != (n%10 != 0 || n == 0 && e == 0) {
				t.Fatal(n, e)
			}
		}
	}
	empty := impl.Nat{L: []int{}}
	if !impl.DecOk(impl.Dec{D: empty}) || !impl.DecOk(impl.Dec{Neg: true, D: empty}) || impl.DecOk(impl.Dec{D: empty, E: 1}) {
		t.Fatal("0")
	}
	for e := -mostTen - 3; e <= mostTen+3; e++ {
		if impl.DecOk(impl.Dec{D: natInt(1), E: e}) != (e >= -800 && e <= 800) {
			t.Fatal(e)
		}
	}
}

// wantDecText is the text by the document's words: t, n and E are its own.
func wantDecText(d impl.Dec) string {
	t := bigOf(d.D).String()
	n := len(t) + d.E
	sign := ""
	if d.Neg {
		sign = "-"
	}
	switch {
	case n > 21 || n < -5:
		text := t[:1]
		if rest := t[1:]; rest != "" {
			text += "." + rest
		}
		return sign + text + "e" + fmt.Sprint(n-1)
	case d.E >= 0:
		return sign + t + strings.Repeat("0", d.E)
	case n > 0:
		return sign + t[:n] + "." + t[n:]
	}
	return sign + "0." + strings.Repeat("0", -n) + t
}

func sameDecText(t *testing.T, d impl.Dec) {
	t.Helper()
	text := impl.DecText(d)
	if want := wantDecText(d); string(text) != want {
		t.Fatalf("DecText of %v is %q, not %q", d, text, want)
	}
	if value, ok := new(big.Rat).SetString(string(text)); !ok || value.Cmp(ratOfDec(d)) != 0 {
		t.Fatalf("DecText of %v is %q", d, text)
	}
	back, ok := impl.DecRead(text)
	if len(text) > impl.MaxText {
		refusedDec(t, "DecRead of a long text", back, ok)
		return
	}
	if !ok {
		t.Fatalf("DecRead of %q", text)
	}
	sameDec(t, "DecRead of "+string(text), back, d)
}

func TestDecTexts(t *testing.T) {
	for _, d := range manyDecs() {
		sameDecText(t, d)
	}
	for n := 1; n <= 1300; n++ {
		for _, e := range []int{-9, -8, -7, -6, -5, -4, -3, -2, -1, 0, 1, 2, 18, 19, 20, 21, 22} {
			sameDecText(t, decInt(n, e))
			sameDecText(t, decInt(-n, e))
		}
	}
	for e := -mostTen; e <= mostTen; e++ {
		for _, n := range []int{1, -7, 12, -345} {
			sameDecText(t, decInt(n, e))
		}
	}
	source := rand.New(rand.NewSource(601))
	for range 3000 {
		sameDecText(t, someDec(source, []int{2, 20, 60, 399}[source.Intn(4)], []int{-300, -6, -3, 0, 10, 21, 300}[source.Intn(7)]))
	}
}

func TestDecTextLiterals(t *testing.T) {
	rows := []struct {
		n, e int
		text string
	}{
		{0, 0, "0"}, {1, 0, "1"}, {-1, 0, "-1"}, {125, 0, "125"}, {125, -1, "12.5"}, {-125, -2, "-1.25"}, {125, -3, "0.125"}, {125, -4, "0.0125"}, {1, 1, "10"}, {-12, 3, "-12000"},
		{1, 20, "100000000000000000000"}, {1, 21, "1e21"}, {12, 19, "120000000000000000000"}, {12, 20, "1.2e21"}, {-12, 20, "-1.2e21"}, {123456789, 12, "123456789000000000000"}, {123456789, 13, "1.23456789e21"},
		{1, -6, "0.000001"}, {1, -7, "1e-7"}, {12, -7, "0.0000012"}, {12, -8, "1.2e-7"}, {-12, -8, "-1.2e-7"}, {9, -1, "0.9"}, {99, -1, "9.9"}, {99, -2, "0.99"}, {99, -3, "0.099"},
		{1, 800, "1e800"}, {-1, -800, "-1e-800"}, {11, 800, "1.1e801"}, {11, -800, "1.1e-799"}, {5, -324, "5e-324"}, {17976931348623157, 292, "1.7976931348623157e308"},
	}
	for _, row := range rows {
		if text := string(impl.DecText(decInt(row.n, row.e))); text != row.text {
			t.Fatalf("%v: %q", row, text)
		}
	}
	if text := string(impl.DecText(minusNoughtDec)); text != "-0" {
		t.Fatal(text)
	}
	long := []struct {
		n    *big.Int
		e    int
		text string
	}{
		{plus(ten(20), 1), 0, "100000000000000000001"}, {plus(ten(21), 1), 0, "1.000000000000000000001e21"}, {plus(ten(21), 1), -1, "100000000000000000000.1"},
		{plus(ten(22), 1), -1, "1.0000000000000000000001e21"}, {plus(ten(20), 1), -20, "1.00000000000000000001"}, {plus(ten(20), 1), -21, "0.100000000000000000001"},
		{plus(ten(20), 1), -26, "0.00000100000000000000000001"}, {plus(ten(20), 1), -27, "1.00000000000000000001e-7"},
	}
	for _, row := range long {
		if text := string(impl.DecText(dec(row.n, row.e))); text != row.text {
			t.Fatalf("%v: %q", row, text)
		}
	}
}

// numberForm is what DecRead takes of a plain text, by the document's words.
var numberForm = regexp.MustCompile(`\A([+-]?)([0-9]+)(?:\.([0-9]+))?(?:[eE]([+-]?[0-9]{1,6}))?\z`)

// wantRead is the number of a plain text, and false where there is none.
func wantRead(text string) (impl.Dec, bool) {
	parts := numberForm.FindStringSubmatch(text)
	if parts == nil || len(text) > impl.MaxText {
		return impl.Dec{}, false
	}
	n, _ := new(big.Int).SetString(parts[2]+parts[3], 10)
	e := 0
	if parts[4] != "" {
		e, _ = strconv.Atoi(parts[4])
	}
	e -= len(parts[3])
	if !decTellable(n, e) {
		return impl.Dec{}, false
	}
	d := dec(n, e)
	d.Neg = parts[1] == "-"
	return d, true
}

// sameRead asks it of a text whose plain form is given.
func sameRead(t *testing.T, text string, plain string) {
	t.Helper()
	got, ok := impl.DecRead([]byte(text))
	want, is := wantRead(plain)
	if len(text) > impl.MaxText {
		is = false
	}
	if ok != is {
		t.Fatalf("DecRead of %q: %t", text, ok)
	}
	if !ok {
		refusedDec(t, "DecRead of "+text, got, ok)
		return
	}
	sameDec(t, "DecRead of "+text, got, want)
}

// numberTexts has every form of a number, in parts that go with all others.
func numberTexts() []string {
	var list []string
	for _, sign := range []string{"", "+", "-"} {
		for _, ahead := range []string{"0", "00", "7", "007", "10", "1200", "123456789", "90000000000000000000000", "1" + strings.Repeat("0", 120)} {
			for _, behind := range []string{"", ".0", ".5", ".50", ".000", ".001", ".00100", ".1234567890", "." + strings.Repeat("0", 100) + "1"} {
				for _, power := range []string{"", "e0", "E0", "e5", "e+5", "E-5", "e-0", "e+0", "e007", "e-000012", "e300", "E+000300", "e-300", "e999999", "e-999999"} {
					list = append(list, sign+ahead+behind+power)
				}
			}
		}
	}
	return list
}

func TestDecReadOfForms(t *testing.T) {
	read := 0
	for _, text := range numberTexts() {
		sameRead(t, text, text)
		if _, ok := impl.DecRead([]byte(text)); ok {
			read++
		}
	}
	if read < 2500 {
		t.Fatal("few are read:", read)
	}
}

// Every text of few bytes that numbers are made of.
func TestDecReadOfShortTexts(t *testing.T) {
	letters := "01.eE+- "
	list := []string{""}
	for first := 0; first < len(list) && len(list[first]) < 6; first++ {
		sameRead(t, list[first], list[first])
		for _, c := range letters {
			list = append(list, list[first]+string(c))
		}
	}
	if len(list) < 299000 {
		t.Fatal(len(list))
	}
	for i := len(list) - 1; len(list[i]) == 6; i -= 7 {
		sameRead(t, list[i], list[i])
	}
}

func TestDecReadLiterals(t *testing.T) {
	rows := []struct {
		text string
		neg  bool
		n, e int
	}{
		{"0", false, 0, 0}, {"+0", false, 0, 0}, {"-0", true, 0, 0}, {"-0.000", true, 0, 0}, {"0e5", false, 0, 0}, {"-0e-5", true, 0, 0}, {"0e999999", false, 0, 0}, {"-00.00E-999999", true, 0, 0},
		{"1", false, 1, 0}, {"-1", true, 1, 0}, {"+012.50e1", false, 125, 0}, {"12.50", false, 125, -1}, {"-1200", true, 12, 2}, {"0.00120", false, 12, -4}, {"1e1", false, 1, 1}, {"1E-1", false, 1, -1},
		{"10e-1", false, 1, 0}, {"100e-2", false, 1, 0}, {"1000000e000003", false, 1, 9}, {"1.5e+3", false, 15, 2}, {"0000000001", false, 1, 0}, {"9007199254740993", false, 9007199254740993, 0},
		{"\u0661\u0662.\u0665e\u0663", false, 125, 2}, {"\u2212\u06f1\u06f2", true, 12, 0}, {"\uff0b\uff11\uff12.\uff15e\uff0d\uff11", false, 125, -2}, {"\uff0d\u0967e\u2212\u0968", true, 1, -2},
		{"1\u06622\u0663", false, 1223, 0}, {"\u0660", false, 0, 0}, {"-\u0966.\u0966", true, 0, 0},
	}
	for _, row := range rows {
		got, ok := impl.DecRead([]byte(row.text))
		if !ok {
			t.Fatalf("%q", row.text)
		}
		sameDec(t, row.text, got, impl.Dec{Neg: row.neg, D: natInt(row.n), E: row.e})
	}
}

// Powers of ten at their limits, before and behind what noughts at the end of the digits bring to them.
func TestDecReadAtTheLimits(t *testing.T) {
	rows := []struct {
		text string
		ok   bool
	}{
		{"1e800", true}, {"1e801", false}, {"-1e800", true}, {"-1e801", false}, {"1e-800", true}, {"1e-801", false}, {"-1e-800", true}, {"-1e-801", false},
		{"10e799", true}, {"10e800", false}, {"100e798", true}, {"100e799", false}, {"10e-801", true}, {"10e-802", false}, {"1000e-803", true}, {"1000e-804", false},
		{"1.5e801", true}, {"1.5e802", false}, {"1.5e-799", true}, {"1.5e-800", false}, {"1.0e800", true}, {"1.0e801", false}, {"1.00e-800", true}, {"1.00e-801", false},
		{"10.0e-801", true}, {"0.1e801", true}, {"0.1e802", false}, {"0.1e-799", true}, {"0.1e-800", false}, {"0.001e803", true}, {"0.001e804", false}, {"0.10e-799", true}, {"0.10e-800", false},
		{"0e801", true}, {"0e-801", true}, {"-0.0e801", true}, {"0e-999999", true}, {"1e000800", true}, {"1e+00800", true}, {"1e0000800", false}, {"1e999999", false}, {"1e-999999", false},
		{"1e1", true}, {"1e12", true}, {"1e123", true}, {"1e0123", true}, {"1e00123", true}, {"1e000123", true}, {"1e0000123", false}, {"1e-000123", true}, {"1e-0000123", false}, {"0e0000000", false}, {"0e000000", true},
		{"1e1000000", false}, {"1e9223372036854775808", false}, {"1e-9223372036854775809", false}, {"1e18446744073709551616", false}, {"1e4294967296", false},
		{"1" + strings.Repeat("0", 390) + "e410", true}, {"1" + strings.Repeat("0", 390) + "e411", false}, {"1" + strings.Repeat("0", 390) + "e-1190", true}, {"1" + strings.Repeat("0", 390) + "e-1191", false},
		{"0." + strings.Repeat("0", 390) + "1e1191", true}, {"0." + strings.Repeat("0", 390) + "1e1192", false}, {"0." + strings.Repeat("0", 390) + "1e-409", true}, {"0." + strings.Repeat("0", 390) + "1e-410", false},
		{"1." + strings.Repeat("0", 390) + "e800", true}, {"1." + strings.Repeat("0", 390) + "e801", false}, {"1." + strings.Repeat("0", 390) + "e-800", true}, {"1." + strings.Repeat("0", 390) + "e-801", false},
	}
	for _, row := range rows {
		if _, ok := impl.DecRead([]byte(row.text)); ok != row.ok {
			t.Fatal(row)
		}
		sameRead(t, row.text, row.text)
	}
}

func TestDecReadOfLongTexts(t *testing.T) {
	for _, k := range []int{390, 398, 399, 400, 401, 402, 1000, 30000} {
		for _, head := range []string{"", "-", "+", "0.", "9.", "-1e", "12."} {
			for _, end := range []string{"", "e1", "E-05", ".7", "."} {
				for _, c := range []string{"9", "0", "1"} {
					text := head + strings.Repeat(c, max(0, k-len(head)-len(end))) + end
					sameRead(t, text, text)
				}
			}
		}
	}
	// A text may be too long, though what Plain would make of it is not.
	for _, k := range []int{99, 132, 133, 134, 198, 199, 200, 201, 399, 400, 401} {
		for _, nought := range []int{48, 1632, 1776, 2406, 65296} {
			for _, digits := range []string{strings.Repeat("7", k), "0." + strings.Repeat("3", k-2), strings.Repeat("2", k-1) + ".5", strings.Repeat("2", k-2) + "e7"} {
				sameRead(t, inScript(digits, nought), digits)
			}
		}
	}
}

func TestDecReadOfAnyScript(t *testing.T) {
	scripts := [][]int{{1632}, {1776}, {2406}, {65296}, {48, 1632, 1776, 2406, 65296}, {65296, 48}}
	minusSigns, plusSigns := []string{"-", "\u2212", "\uff0d"}, []string{"+", "\uff0b"}
	for i, plain := range numberTexts() {
		for j, noughts := range scripts {
			text := inScript(plain, noughts...)
			text = strings.ReplaceAll(text, "-", minusSigns[(i+j)%3])
			text = strings.ReplaceAll(text, "+", plusSigns[(i+j)%2])
			sameRead(t, text, plain)
		}
	}
}

// noNumbers has texts that are almost numbers.
func noNumbers() []string {
	return []string{"", "+", "-", "\u2212", "\uff0b", ".", "-.", "e", "E5", "e5", "-e5", ".5", "-.5", "+.5", "1.", "-1.", "1.e5", ".e5", ".5e5", "1..5", "1.5.", "1.5.5", "..5", "1.5.e5",
		"1e", "1E", "1e+", "1e-", "1E\u2212", "1.5e", "1.5e+", "1e1.5", "1e.5", "1e5.", "1e5e5", "1ee5", "1eE5", "1e5E", "1e++5", "1e--5", "1e+-5", "1e5+", "1e5-", "1e 5", "1 e5", "1e5 ", "1e- 5",
		"++1", "--1", "+-1", "-+1", "-\u22121", "1+", "1-", "1-1", "1+1", "1-e5", "1.-5", "1.+5", "-1.-5",
		" ", " 1", "1 ", "\t1", "1\t", "\u00a01", "1\u3000", "\u20091", "- 1", "-1 ", " -1", "1 2", "1 .5", "1. 5", "1.5 ", "\n1", "1\n", "1\r",
		"1,5", "1_0", "1'0", "0x10", "0b1", "1p5", "1f", "1d5", "a", "1a", "a1", "1e5a", "1.a", "1.5a", "(1)", "1/2", "1:", "/1", "\u0665\u066b\u0665", "1\u066b5", "1\uff0e5", "1\uff455", "1\u04355", "1\u00b2", "1\u09e7", "\u0be7", "\U0001d7ce", "\u2013" + "1", "\u00ad1",
		"nan", "inf", "-inf", "+inf", "infinity", "1nan", "1einf", "1e1234567", "1e-1234567", "1e0000001", "0e0000000",
		"\x00", "1\x00", "\x001", "\xff", "1\xff", "\xff1", "-\xff", "1.\xff", "1e\xff", "\ufffd", "1\ufffd", "\xd9", "1\xd9", "1.\xd9", "1e\xd9", "\xb1", "\xe2\x88", "\xe2\x881", "1.5\xe2\x88", "\xc0\xb1", "\xe0\x80\xb1", "\xf0\x80\x80\xb1", "\xed\xa0\x80",
		strings.Repeat("\xff", impl.MaxText), strings.Repeat("1", impl.MaxText-1) + "x", strings.Repeat("1", impl.MaxText-1) + ".", strings.Repeat("1", impl.MaxText-1) + "e", strings.Repeat("1", impl.MaxText-1) + "\xff",
		strings.Repeat("1", impl.MaxText-1) + "-", strings.Repeat("1", impl.MaxText-1) + " ", "." + strings.Repeat("1", impl.MaxText-1), strings.Repeat(" ", impl.MaxText), "1" + strings.Repeat("\xff", 133), strings.Repeat("1", impl.MaxText+1)}
}

func TestDecReadRefuses(t *testing.T) {
	for _, text := range noNumbers() {
		got, ok := impl.DecRead([]byte(text))
		refusedDec(t, fmt.Sprintf("DecRead of %q", text), got, ok)
	}
	got, ok := impl.DecRead(nil)
	refusedDec(t, "DecRead of nothing", got, ok)
}

// Every byte in every place of a number: what it makes is asked by Plain of it.
func TestDecReadByteByByte(t *testing.T) {
	for _, text := range []string{"7", "-12", "1.25", "3e7", "-1.5e-12", "+20.50E+3"} {
		for at := range len(text) + 1 {
			for c := range 256 {
				inside := text[:at] + string([]byte{byte(c)}) + text[at:]
				sameRead(t, inside, string(impl.Plain([]byte(inside))))
				if at < len(text) {
					instead := text[:at] + string([]byte{byte(c)}) + text[at+1:]
					sameRead(t, instead, string(impl.Plain([]byte(instead))))
				}
			}
		}
	}
}

// Every rune ahead of, behind and between digits: only digits and signs of chapter 1, the point and e are any.
func TestDecReadRuneByRune(t *testing.T) {
	for r := 0; r <= impl.RuneMost; r++ {
		text := string(impl.RuneBytes(r))
		if text == "" {
			continue
		}
		digit, sign := impl.DigitOf(r) >= 0, impl.SignOf(r) != 0
		rows := []struct {
			text string
			ok   bool
		}{{text + "4", digit || sign}, {"4" + text, digit}, {"4" + text + "4", digit || r == '.' || r == 'e' || r == 'E'}, {"4e" + text + "4", digit || sign}}
		for _, row := range rows {
			if got, ok := impl.DecRead([]byte(row.text)); ok != row.ok || !ok && (got.Neg || len(got.D.L) > 0 || got.E != 0) {
				t.Fatalf("%q is read as %v, %t", row.text, got, ok)
			}
		}
	}
}

func sameDecCmp(t *testing.T, d impl.Dec, x impl.Dy) {
	t.Helper()
	if got, want := impl.DecCmp(d, x), ratOfDec(d).Cmp(ratOf(x)); got != want {
		t.Fatalf("DecCmp of %v and %v is %d, not %d", d, x, got, want)
	}
}

func TestDecCmpFar(t *testing.T) {
	dys := manyDys()
	for i, d := range manyDecs() {
		sameDecCmp(t, d, impl.Dy{})
		for j := range 4 {
			sameDecCmp(t, d, dys[(7*i+31*j)%len(dys)])
		}
	}
	for _, x := range dys {
		sign := -ratOf(x).Sign()
		for _, d := range []impl.Dec{{}, minusNoughtDec} {
			if got := impl.DecCmp(d, x); got != sign {
				t.Fatal(d, x, got)
			}
		}
	}
	least, most := dec(big.NewInt(1), -mostTen), dec(mostNat(), mostTen)
	if impl.DecCmp(least, dyInt(1, -3000)) != 1 || impl.DecCmp(oppositeDec(least), dyInt(-1, -3000)) != -1 || impl.DecCmp(most, dy(mostNat(), impl.MaxE)) != ratOfDec(most).Cmp(ratOf(dy(mostNat(), impl.MaxE))) {
		t.Fatal("the least and the greatest")
	}
}

// nearDys are the dyadic numbers next to d of so many bits: at most as great as it, and greater.
func nearDys(d impl.Dec, bits int) (impl.Dy, impl.Dy) {
	q := fracOfDec(d)
	low := q.top() - bits
	down, _ := q.rounded(low, impl.RdDown)
	return dy(down, low), dy(plus(down, 1), low)
}

func TestDecCmpNear(t *testing.T) {
	same := 0
	for _, d := range manyDecs() {
		if len(d.D.L) == 0 {
			continue
		}
		for _, bits := range []int{2, 53, 100, 1000, natBits - 1} {
			down, up := nearDys(d, bits)
			if !impl.DyOk(down) || !impl.DyOk(up) {
				continue
			}
			sameDecCmp(t, d, down)
			sameDecCmp(t, d, up)
			if impl.DecCmp(d, up) != -1 || impl.DecCmp(d, down) < 0 {
				t.Fatal(d, bits)
			}
			if impl.DecCmp(d, down) == 0 {
				same++
			}
		}
	}
	if same < 100 {
		t.Fatal("few are the same:", same)
	}
}

func TestDecCmpLiterals(t *testing.T) {
	rows := []struct {
		text string
		x    impl.Dy
		want int
	}{
		{"0.5", dyInt(1, -1), 0}, {"0.49", dyInt(1, -1), -1}, {"0.51", dyInt(1, -1), 1}, {"-0.5", dyInt(-1, -1), 0}, {"-0.49", dyInt(-1, -1), 1}, {"-0.51", dyInt(-1, -1), -1}, {"-0.5", dyInt(1, -1), -1}, {"0.5", dyInt(-1, -1), 1},
		{"0", impl.Dy{}, 0}, {"-0", impl.Dy{}, 0}, {"0", dyInt(1, -3000), -1}, {"-0", dyInt(-1, -3000), 1}, {"1e-800", impl.Dy{}, 1}, {"-1e-800", impl.Dy{}, -1}, {"1024", dyInt(1, 10), 0}, {"1e3", dyInt(1, 10), -1}, {"1025", dyInt(1, 10), 1},
		{"1e22", dyInt(2384185791015625, 22), 0}, {"0.1", dyInt(3602879701896397, -55), -1}, {"0.1000000000000000055511151231257827021181583404541015625", dyInt(3602879701896397, -55), 0}, {"1e800", dyInt(1, 2657), 1}, {"1e800", dyInt(1, 2658), -1}, {"1e-800", dyInt(1, -2658), 1}, {"1e-800", dyInt(1, -2657), -1},
	}
	for _, row := range rows {
		d, ok := impl.DecRead([]byte(row.text))
		if got := impl.DecCmp(d, row.x); !ok || got != row.want {
			t.Fatal(row, got, ok)
		}
	}
}

func TestDecCmpWrong(t *testing.T) {
	dys := []impl.Dy{{}, dyInt(1, 0), dyInt(-3, -5), dy(mostNat(), impl.MaxE), dyInt(-1, -impl.MaxE)}
	decs := []impl.Dec{{}, minusNoughtDec, decInt(1, 0), decInt(-25, -1), decInt(1, mostTen), dec(mostNat(), -mostTen)}
	bad := badDys()
	for i, d := range badDecs() {
		for _, x := range append(dys, bad[i%len(bad)]) {
			if got := impl.DecCmp(d, x); got != 0 {
				t.Fatal(d, x, got)
			}
		}
	}
	for _, x := range bad {
		for _, d := range decs {
			if got := impl.DecCmp(d, x); got != 0 {
				t.Fatal(d, x, got)
			}
		}
	}
}

// DyText is the number itself, by DecRead and DecCmp.
func TestDyTextIsReadAsDecimal(t *testing.T) {
	read := 0
	check := func(x impl.Dy) {
		t.Helper()
		text, ok := impl.DyText(x)
		if !ok || len(text) > impl.MaxText {
			return
		}
		d, is := impl.DecRead(text)
		if !is || impl.DecCmp(d, x) != 0 || ratOfDec(d).Cmp(ratOf(x)) != 0 {
			t.Fatalf("%q is %v, %t", text, d, is)
		}
		if next, fine := impl.DyAdd(x, dyInt(1, -1500)); fine && impl.DecCmp(d, next) != -1 {
			t.Fatalf("%q is not below what is greater", text)
		}
		read++
	}
	for _, x := range manyDys() {
		check(x)
	}
	source := rand.New(rand.NewSource(602))
	for range 2000 {
		check(someDy(source, 8, 120))
	}
	if read < 1500 {
		t.Fatal("few are read:", read)
	}
}

func sameDecFloat(t *testing.T, d impl.Dec, mode int) {
	t.Helper()
	got, flags, ok := impl.DecFloat(d, mode)
	name := fmt.Sprintf("DecFloat of %s, %d", wantDecText(d), mode)
	if !ok {
		t.Fatal(name, "is refused")
	}
	if len(d.D.L) == 0 {
		sameFl(t, name, got, flags, impl.Fl{Neg: d.Neg}, 0)
		return
	}
	want, wantFlags := wantFl(fracOfDec(d), mode)
	sameFl(t, name, got, flags, want, wantFlags)
	if got.Neg != d.Neg {
		t.Fatal(name, "has lost its sign")
	}
	if mode != impl.RdEven {
		return
	}
	if x, _ := strconv.ParseFloat(wantDecText(d), 64); fromGo(x) != got {
		t.Fatal(name, "is", got, "but Go's", x)
	}
}

func TestDecFloats(t *testing.T) {
	for _, d := range manyDecs() {
		for _, mode := range modes() {
			sameDecFloat(t, d, mode)
		}
	}
	source := rand.New(rand.NewSource(603))
	for range 4000 {
		place := []int{-326, -324, -323, -320, -309, -308, -307, -100, -20, 0, 1, 10, 16, 20, 100, 307, 308, 309, 310}[source.Intn(19)]
		d := someDec(source, []int{1, 3, 18, 40}[source.Intn(4)], place)
		for _, mode := range modes() {
			sameDecFloat(t, d, mode)
		}
	}
}

// decOfDy is x as a decimal number, and true, where that may be told; else it has as many of x's first digits as may be, up to 480.
func decOfDy(x impl.Dy) (impl.Dec, bool) {
	n, e := bigOfWhole(x.M), 0
	if x.E >= 0 {
		n.Lsh(n, uint(x.E))
	} else {
		n.Mul(n, new(big.Int).Exp(big.NewInt(5), big.NewInt(int64(-x.E)), nil))
		e = x.E
	}
	if decTellable(n, e) {
		return dec(n, e), true
	}
	drop := max(len(new(big.Int).Abs(n).String())-480, -mostTen-e)
	return dec(n.Quo(n, ten(drop)), e+drop), false
}

// nudged is d with so much more in its last place of at most 480 digits.
func nudged(d impl.Dec, by int64) impl.Dec {
	n := bigOf(d.D)
	room := max(0, min(480-len(n.String()), d.E+mostTen))
	if d.Neg {
		n.Neg(n)
	}
	n.Mul(n, ten(room))
	return dec(plus(n, by), d.E-room)
}

// What lies at, just below and just above each float, and half way to the next one.
func TestDecFloatBetweenFloats(t *testing.T) {
	source := rand.New(rand.NewSource(604))
	list := edgeNumbers()
	for range 250 {
		list = append(list, someFl(source, []int{leastE, leastE + 1, -600, -107, -52, 0, 300, mostE}[source.Intn(8)], 2))
	}
	exact := 0
	for _, f := range list {
		f.Neg = false
		next := impl.FlNext(f)
		if f == greatest {
			// The next one would be 2^1024.
			next = num(full, mostE+1)
		}
		for _, x := range []impl.Dy{dy(whole2(f), leastE), middle(f, next)} {
			d, whole := decOfDy(x)
			if whole {
				exact++
			}
			for _, near := range []impl.Dec{d, nudged(d, 1), nudged(d, -1)} {
				for _, mode := range modes() {
					sameDecFloat(t, near, mode)
					sameDecFloat(t, oppositeDec(near), mode)
				}
			}
		}
	}
	if exact < 200 {
		t.Fatal("few are told whole:", exact)
	}
}

// decRow has what a decimal number becomes in each mode, and the flags of all of them.
type decRow struct {
	text  string
	want  [5]impl.Fl
	flags [5]int
}

func all(flags int) [5]int { return [5]int{flags, flags, flags, flags, flags} }

func decRows() []decRow {
	zero, below := nought, num(full-1, leastE)
	middleOfMost := new(big.Int).Lsh(plus(two(54), -1), 970)
	pastMost := [5]int{over, inex, over, inex, over}
	return []decRow{
		{"0", each(zero), all(0)}, {"1", each(one), all(0)}, {"0.5", each(num(full, -53)), all(0)}, {"1e22", each(num(2384185791015625<<1, 21)), all(0)},
		{"0.1", lowUp(num(7205759403792794, -56), num(7205759403792793, -56), num(7205759403792794, -56), num(7205759403792794, -56)), all(inex)},
		{"0.3", lowUp(num(5404319552844595, -54), num(5404319552844595, -54), num(5404319552844596, -54), num(5404319552844595, -54)), all(inex)},
		{"9007199254740993", lowUp(num(full, 1), num(full, 1), num(full+1, 1), num(full+1, 1)), all(inex)},
		{"9007199254740995", lowUp(num(full+2, 1), num(full+1, 1), num(full+2, 1), num(full+2, 1)), all(inex)},
		{"9007199254740993.00000000000000000000000001", lowUp(num(full+1, 1), num(full, 1), num(full+1, 1), num(full+1, 1)), all(inex)},
		{"9007199254740994.99999999999999999999999999", lowUp(num(full+1, 1), num(full+1, 1), num(full+2, 1), num(full+1, 1)), all(inex)},
		{"1.00000000000000011102230246251565404236316680908203125", lowUp(one, one, num(full+1, -52), num(full+1, -52)), all(inex)},
		{"1.00000000000000033306690738754696212708950042724609375", lowUp(num(full+2, -52), num(full+1, -52), num(full+2, -52), num(full+2, -52)), all(inex)},
		{"5e-324", lowUp(least, least, num(2, leastE), least), all(under)}, {"4.9e-324", lowUp(least, zero, least, least), all(under)},
		{"3e-324", lowUp(least, zero, least, least), all(under)}, {"2.5e-324", lowUp(least, zero, least, least), all(under)}, {"2.4e-324", lowUp(zero, zero, least, zero), all(under)},
		{"1e-324", lowUp(zero, zero, least, zero), all(under)}, {"1e-800", lowUp(zero, zero, least, zero), all(under)}, {"7.4e-324", lowUp(least, least, num(2, leastE), least), all(under)}, {"7.5e-324", lowUp(num(2, leastE), least, num(2, leastE), num(2, leastE)), all(under)},
		{"2.2250738585072011e-308", lowUp(below, below, small, below), all(under)}, {"2.2250738585072012e-308", lowUp(small, below, small, small), all(under)}, {"2.2250738585072013e-308", lowUp(small, below, small, small), all(under)},
		{"2.2250738585072014e-308", lowUp(small, small, num(full+1, leastE), small), all(inex)},
		{"1.7976931348623157e308", lowUp(greatest, num(most-1, mostE), greatest, greatest), all(inex)},
		{"1.7976931348623158e308", lowUp(greatest, greatest, inf, greatest), [5]int{inex, inex, over, inex, inex}},
		{plus(middleOfMost, -1).String(), lowUp(greatest, greatest, inf, greatest), [5]int{inex, inex, over, inex, inex}},
		{middleOfMost.String(), lowUp(inf, greatest, inf, inf), pastMost}, {plus(middleOfMost, 1).String(), lowUp(inf, greatest, inf, inf), pastMost},
		{plus(two(1024), -1).String(), lowUp(inf, greatest, inf, inf), pastMost}, {two(1024).String(), lowUp(inf, greatest, inf, inf), all(over)},
		{new(big.Int).Lsh(big.NewInt(most), mostE).String(), each(greatest), all(0)},
		{"1.8e308", lowUp(inf, greatest, inf, inf), all(over)}, {"1e309", lowUp(inf, greatest, inf, inf), all(over)}, {"1e800", lowUp(inf, greatest, inf, inf), all(over)},
	}
}

func TestDecFloatLiterals(t *testing.T) {
	for _, row := range decRows() {
		d, ok := impl.DecRead([]byte(row.text))
		if !ok {
			t.Fatal(row.text)
		}
		mirror := flRow{n: new(big.Int), want: row.want}.mirrored().want
		flags := row.flags
		flags[impl.RdUp], flags[impl.RdDown] = flags[impl.RdDown], flags[impl.RdUp]
		for _, mode := range modes() {
			got, is, _ := impl.DecFloat(d, mode)
			sameFl(t, fmt.Sprint(row.text, " in ", mode), got, is, row.want[mode], row.flags[mode])
			got, is, _ = impl.DecFloat(oppositeDec(d), mode)
			sameFl(t, fmt.Sprint("-", row.text, " in ", mode), got, is, mirror[mode], flags[mode])
			sameDecFloat(t, d, mode)
		}
	}
}

func TestDecFloatWrong(t *testing.T) {
	refused := func(d impl.Dec, mode int) {
		t.Helper()
		if f, flags, ok := impl.DecFloat(d, mode); f != nought || flags != 0 || ok {
			t.Fatal(d, mode, f, flags, ok)
		}
	}
	for _, d := range badDecs() {
		for _, mode := range append(modes(), -1, 5) {
			refused(d, mode)
		}
		if text := impl.DecText(d); len(text) != 0 {
			t.Fatalf("DecText of %v is %q", d, text)
		}
	}
	for _, mode := range badModes() {
		for _, d := range []impl.Dec{{}, minusNoughtDec, decInt(1, 0), decInt(-3, -324), decInt(1, 309), decInt(-1, mostTen)} {
			refused(d, mode)
		}
	}
}

// decCalls are the functions of a decimal number, told alike.
func decCalls() []func(d impl.Dec, x impl.Dy) string {
	calls := []func(d impl.Dec, x impl.Dy) string{
		func(d impl.Dec, x impl.Dy) string { return fmt.Sprint(impl.DecOk(d)) },
		func(d impl.Dec, x impl.Dy) string { return string(impl.DecText(d)) },
		func(d impl.Dec, x impl.Dy) string { return fmt.Sprint(impl.DecCmp(d, x)) },
	}
	for _, mode := range append(modes(), -1, 5) {
		calls = append(calls, func(d impl.Dec, x impl.Dy) string {
			f, flags, ok := impl.DecFloat(d, mode)
			return fmt.Sprint(f, flags, ok)
		})
	}
	return calls
}

// A list's spare room, and what lies behind its length, is neither read nor written.
func TestDecArgumentMemory(t *testing.T) {
	numbers := []impl.Dec{{D: roomyNat()}, {Neg: true, D: roomyNat()}, decInt(1, 0), decInt(-65537, -5), decInt(7, 300), dec(mostNat(), -mostTen), dec(minus(plus(two(100), 1)), 21),
		{D: roomyNat(10)}, {D: roomyNat(5, 0)}, {D: roomyNat(-1, 3)}, {D: roomyNat(slices.Repeat([]int{3}, impl.MaxLimbs+1)...)}}
	for _, d := range numbers {
		for _, x := range []impl.Dy{{M: impl.Whole{A: roomyNat()}}, dyInt(1, 0), dyInt(-65537, -9), dy(mostNat(), 3000), {M: impl.Whole{A: roomyNat(2)}}} {
			for i, call := range decCalls() {
				wasD, wasX := slices.Clone(d.D.L[:cap(d.D.L)]), slices.Clone(x.M.A.L[:cap(x.M.A.L)])
				first := call(d, x)
				sameLists(t, fmt.Sprint("call ", i), d.D, wasD)
				sameLists(t, fmt.Sprint("call ", i), x.M.A, wasX)
				bare := impl.Dec{Neg: d.Neg, D: impl.Nat{L: slices.Clip(slices.Clone(d.D.L))}, E: d.E}
				if second := call(bare, x); second != first {
					t.Fatal(i, d, first, second)
				}
			}
		}
	}
	// One list in both arguments.
	list := []int{65535, 7, 1}
	if impl.DecCmp(impl.Dec{D: impl.Nat{L: list}}, impl.Dy{M: impl.Whole{A: impl.Nat{L: list}}}) != 0 || !slices.Equal(list, []int{65535, 7, 1}) {
		t.Fatal(list)
	}
}

func TestDecAnswerMemory(t *testing.T) {
	for _, text := range []string{"0", "-0", "1", "-65537.25", "1e800", "12e-5", strings.Repeat("8", impl.MaxText), "1x", "", "1e", "\u0661\u0662.\u0663", "7\xd9"} {
		was := []byte(text)
		b := roomy(was)
		first, ok := impl.DecRead(b)
		untouched(t, "DecRead", b, was)
		kept := impl.Dec{Neg: first.Neg, D: impl.Nat{L: slices.Clone(first.D.L)}, E: first.E}
		second, _ := impl.DecRead(b)
		scribble(answers{nats: []impl.Nat{first.D}})
		untouched(t, "DecRead", b, was)
		third, _ := impl.DecRead(b)
		if !ok {
			refusedDec(t, text, kept, ok)
			continue
		}
		sameDec(t, "an answer that shares memory", second, kept)
		sameDec(t, "an answer that shares memory", third, kept)
		told := string(impl.DecText(kept))
		scribble(answers{text: impl.DecText(kept)})
		if again := string(impl.DecText(kept)); again != told {
			t.Fatal(told, again)
		}
	}
	// What lies behind the length would be read as more of the number.
	long := []byte("123.5e7")
	for n, want := range map[int]int{3: 123, 1: 1} {
		if got, ok := impl.DecRead(long[:n]); !ok || bigOf(got.D).Int64() != int64(want) || got.E != 0 {
			t.Fatal(got)
		}
	}
	if _, ok := impl.DecRead(long[:4]); ok {
		t.Fatal("a point with no digits behind it")
	}
}
