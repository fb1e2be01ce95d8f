package tests

import (
	"fmt"
	"math/big"
	"math/rand"
	"slices"
	"strings"
	"testing"

	"loop.example/g00382/impl"
)

func wantListText(l []impl.Dy) (string, bool) {
	var texts []string
	for _, d := range l {
		if !isWritten(d) {
			return "", false
		}
		texts = append(texts, wantDyText(d))
	}
	if len(l) > 20 {
		return "", false
	}
	return strings.Join(texts, " "), true
}

func sameListText(t *testing.T, l []impl.Dy) bool {
	t.Helper()
	want, told := wantListText(l)
	got, ok := impl.ListText(l)
	sameText(t, fmt.Sprint("ListText of ", l), got, ok, want, told)
	return told
}

func sameIvText(t *testing.T, v impl.Iv) bool {
	t.Helper()
	want, told := wantListText([]impl.Dy{v.Lo, v.Hi})
	if told {
		want = "<" + want + ">"
	}
	got, ok := impl.IvText(v)
	sameText(t, fmt.Sprint("IvText of ", v), got, ok, want, told)
	return told
}

func TestTextLiterals(t *testing.T) {
	half, quarter := dyInt(1, -1), dyInt(-3, -2)
	mats := []struct {
		m    impl.Mat
		text string
	}{
		{noughts(1), "[0]"}, {matOf(1, half), "[0.5]"}, {matOf(1, quarter), "[-0.75]"}, {matInts(1, 3, -5), "[-40]"}, {matInts(2, 0, 1, 2, 3, 4), "[1 2; 3 4]"},
		{matOf(2, half, quarter, impl.Dy{}, dyInt(1, 10)), "[0.5 -0.75; 0 1024]"}, {diagonal(3, half), "[0.5 0 0; 0 0.5 0; 0 0 0.5]"},
		{matInts(4, -1, 1, 2, 3, 4, 5, 6, 7, 8, -1, -2, -3, -4, -5, -6, -7, -8), "[0.5 1 1.5 2; 2.5 3 3.5 4; -0.5 -1 -1.5 -2; -2.5 -3 -3.5 -4]"},
	}
	for _, row := range mats {
		got, ok := impl.MatText(row.m)
		sameText(t, "MatText", got, ok, row.text, true)
		list, ok := impl.ListText(row.m.A)
		sameText(t, "ListText", list, ok, strings.NewReplacer("[", "", ";", "", "]", "").Replace(row.text), true)
	}
	ivs := []struct {
		v    impl.Iv
		text string
	}{{impl.Iv{}, "<0 0>"}, {impl.Iv{Lo: quarter, Hi: half}, "<-0.75 0.5>"}, {alone(half), "<0.5 0.5>"}, {ivInt(-3, -1, 2), "<-12 -4>"}, {ivInt(0, 1, -10), "<0 0.0009765625>"}}
	for _, row := range ivs {
		got, ok := impl.IvText(row.v)
		sameText(t, "IvText", got, ok, row.text, true)
	}
}

func TestTextsOfManyNumbers(t *testing.T) {
	source := rand.New(rand.NewSource(124))
	told := 0
	for _, m := range append(ordinary(125, 60), farMats(126, 10)...) {
		if _, ok := sameMatText(t, m); ok {
			told++
		}
		sameListText(t, m.A)
		for i, d := range m.A {
			sameIvText(t, ordered(d, m.A[source.Intn(i+1)]))
			sameListText(t, m.A[i:i+1])
		}
	}
	if told < 200 {
		t.Fatal(told)
	}
}

// lastWritten has numbers of which DyText is just told, and such as are just not.
func lastWritten() ([]impl.Dy, []impl.Dy) {
	var just, beyond []impl.Dy
	for _, n := range []*big.Int{big.NewInt(1), big.NewInt(-3), plus(two(70), 1), mostNat(), minus(mostNat())} {
		just = append(just, dy(n, -100), dy(n, 1000), dy(n, -99), dy(n, 999), dy(n, 0))
		beyond = append(beyond, dy(n, -101), dy(n, 1001), dy(n, -impl.MaxE), dy(n, impl.MaxE))
	}
	return just, beyond
}

func TestTextsJustTold(t *testing.T) {
	just, beyond := lastWritten()
	for n := 1; n <= impl.MaxN; n++ {
		for place := range n * n {
			for _, d := range just {
				if _, ok := sameMatText(t, with(ones(n), place, d)); !ok {
					t.Fatal(d)
				}
			}
			for _, d := range beyond {
				if _, ok := sameMatText(t, with(ones(n), place, d)); ok {
					t.Fatal(d)
				}
			}
		}
	}
	one := dyInt(1, 0)
	for i, d := range slices.Concat(just, beyond) {
		told := i < len(just)
		for place := range 20 {
			list := slices.Repeat([]impl.Dy{one}, 20)
			list[place] = d
			if sameListText(t, list) != told || sameListText(t, list[place:]) != told || sameListText(t, list[:place+1]) != told {
				t.Fatal(place, d)
			}
		}
		if sameIvText(t, ordered(d, one)) != told || sameIvText(t, ordered(impl.Dy{}, d)) != told || sameIvText(t, alone(d)) != told {
			t.Fatal(d)
		}
	}
}

// All numbers of a list are told that has 20 at most: no more, whatever they are.
func TestListTextLengths(t *testing.T) {
	for _, d := range []impl.Dy{{}, dyInt(1, 0), dyInt(-5, -3), dy(mostNat(), 1000), dy(minus(mostNat()), -100)} {
		for many := range 45 {
			if told := sameListText(t, slices.Repeat([]impl.Dy{d}, many)); told != (many <= 20) {
				t.Fatal(many, told)
			}
		}
	}
	for _, empty := range [][]impl.Dy{nil, {}, {dyInt(1, 0)}} {
		got, ok := impl.ListText(empty[:0])
		sameText(t, "ListText of nothing", got, ok, "", true)
	}
	got, ok := impl.ListText(make([]impl.Dy, 100000))
	sameText(t, "ListText of many", got, ok, "", false)
}

// A text of MaxText bytes is read, one of a byte more is not, whatever it is.
func TestMatReadTextLengths(t *testing.T) {
	right := []string{"[1]", " [1 2;3 4]", "[1 2 3;4 5 6;7 8 9]", "[0.5 -1;1e3 0]", "[\u0661 \u0662;\u0663 \uff14]"}
	for _, text := range right {
		want := read(text)
		if want.code != impl.RdWell {
			t.Fatal(text, want)
		}
		open := strings.Index(text, "[") + 1
		for many := impl.MaxText - 3; many <= impl.MaxText+3; many++ {
			blanks := strings.Repeat(" ", many-len(text))
			digits := strings.Repeat("0", many-len(text))
			for _, long := range []string{blanks + text, text + blanks, text[:open] + blanks + text[open:], text[:open] + digits + text[open:]} {
				if many > impl.MaxText {
					read(long).is(t, long, wrongly(impl.RdLong, 0))
					continue
				}
				read(long).is(t, long, want)
			}
		}
	}
	for _, part := range []string{"x", "[", "]", ";", " ", "1", "\xff", "\u0661", "\u3000", "[1]", "[1] ", "[[", "[1;"} {
		for many := impl.MaxText - 4; many <= impl.MaxText+8; many++ {
			long := strings.Repeat(part, many/len(part)+1)[:many]
			if got := sameReading(t, long); (got.code == impl.RdLong) != (many > impl.MaxText) {
				t.Fatal(long, got)
			}
		}
	}
	for _, many := range []int{1000, 65536, 1 << 20} {
		read(strings.Repeat("[1]", many)).is(t, "a long one", wrongly(impl.RdLong, 0))
	}
}

// How long a text is counts ahead of it being made plain, which may make it shorter.
func TestMatReadOfTextsThatBecomeShort(t *testing.T) {
	short := "[" + strings.Repeat("\u0660", 199) + "]"
	if len(short) != impl.MaxText || len(wantPlain([]byte(short))) != 201 {
		t.Fatal(len(short))
	}
	read(short).is(t, short, reading{m: noughts(1)})
	wide := strings.Repeat("\u3000", 132) + "[12]"
	if len(wide) != impl.MaxText {
		t.Fatal(len(wide))
	}
	read(wide).is(t, wide, reading{m: matInts(1, 0, 12)})
	for _, long := range []string{short + " ", "[" + strings.Repeat("\u0660", 200) + "]", wide + " ", wide + "\u3000", " " + wide, strings.Repeat("\u3000", 134)} {
		read(long).is(t, long, wrongly(impl.RdLong, 0))
	}
	read(wide[:3*132]).is(t, "blanks", wrongly(impl.RdForm, 132))
	read(wide[:3*132]+"[12").is(t, "a matrix that lacks its bracket", wrongly(impl.RdForm, 135))
	read(wide[3:]+"\u3000").is(t, wide, reading{m: matInts(1, 0, 12)})
	read(wide[9:]+"\u3000\u0661").is(t, wide, wrongly(impl.RdForm, 129+4+1))
}

// Each byte that is no rune is three when it is plain: a word may have more than MaxText bytes then, and is no number.
func TestMatReadOfTextsThatBecomeLong(t *testing.T) {
	for _, word := range []string{strings.Repeat("\xff", 396), "1" + strings.Repeat("\xff", 395), strings.Repeat("\xff", 395) + "1", strings.Repeat("1\xff", 198), strings.Repeat("\ufffd", 132)} {
		for ahead, place := range map[string]int{"[": 1, " [": 2, "[1 ": 3, "[ ": 2, "[1;": 3} {
			for _, behind := range []string{"", "]"} {
				text := ahead + word + behind
				read(text[:min(len(text), impl.MaxText)]).is(t, text, wrongly(impl.RdNum, place))
			}
		}
		read(word+" [").is(t, word, wrongly(impl.RdForm, 0))
		read("[1]"+word).is(t, word, wrongly(impl.RdForm, 3))
		read("[] "+word).is(t, word, wrongly(impl.RdShape, 0))
	}
	for many := 1; many < 390; many++ {
		text := "[1 \xff" + strings.Repeat("\xfe", many) + " x]"
		read(text).is(t, text, wrongly(impl.RdNum, 3))
	}
}

// rowsOfMany is a text with rows of so many ones.
func rowsOfMany(many ...int) string {
	var rows []string
	for _, k := range many {
		rows = append(rows, strings.TrimSuffix(strings.Repeat("1 ", k), " "))
	}
	return "[" + strings.Join(rows, ";") + "]"
}

// Every matrix of up to MaxN + 1 rows with up to MaxN + 1 numbers each: those are right that have as many in each row as there are rows.
func TestMatReadShapes(t *testing.T) {
	lists := [][]int{nil}
	right := 0
	for first := 0; first < len(lists); first++ {
		many := lists[first]
		if len(many) <= impl.MaxN {
			for k := range impl.MaxN + 2 {
				lists = append(lists, append(slices.Clone(many), k))
			}
		}
		if len(many) == 0 {
			continue
		}
		want := wrongly(impl.RdShape, 0)
		if n := len(many); n <= impl.MaxN && !slices.ContainsFunc(many, func(k int) bool { return k != n }) {
			want = reading{m: ones(n)}
			right++
		}
		text := rowsOfMany(many...)
		read(text).is(t, text, want)
	}
	if right != impl.MaxN || len(lists) != 1+6+36+216+1296+7776 {
		t.Fatal(right, len(lists))
	}
	for n := 1; n <= 12; n++ {
		text := rowsOfMany(slices.Repeat([]int{n}, n)...)
		if got := sameReading(t, text); (got.code == impl.RdWell) != (n <= impl.MaxN) {
			t.Fatal(text, got)
		}
	}
}

func TestMatReadShapesByHand(t *testing.T) {
	for text, place := range map[string]int{
		"[]": 0, " []": 1, "[;]": 0, "[ ; ]": 0, "[;;]": 0, "[;;;]": 0, "[;;;;]": 0, "   [   ]   ": 3, "[1 2]": 0, "[1;2]": 0, "[1;]": 0, "[;1]": 0, "[1 2;3]": 0, "[1;2 3]": 0, "[1 2;3 4;]": 0, "[;1 2;3 4]": 0, "[1 2;;3 4]": 0,
		"[1 2;3 4;5 6]": 0, "[1 2 3;4 5 6]": 0, "[1 2;3 4 5]": 0, "[1 2 3 4 5;1 2 3 4 5;1 2 3 4 5;1 2 3 4 5;1 2 3 4 5]": 0, "[1 2 3 4;1 2 3 4;1 2 3 4;1 2 3]": 0, "[1 2 3 4;1 2 3 4;1 2 3 4;1 2 3 4;1 2 3 4]": 0,
		"\t\u3000\u00a0[1 2]": 3, "\u2009[1;\u0662]": 1, "[" + strings.Repeat(";", 398) + "]": 0, "[" + strings.Repeat("1 ", 199) + "]": 0,
	} {
		read(text).is(t, text, wrongly(impl.RdShape, place))
		sameReading(t, text)
	}
}

// The greatest float is read, with all that is nearer to it than to 2^1024; what is as far from both is none.
func TestMatReadGreatest(t *testing.T) {
	greatest := new(big.Int).Sub(two(1024), two(971))
	beyond := new(big.Int).Sub(two(1024), two(970))
	for sign, factor := range map[string]*big.Int{"": big.NewInt(1), "+": big.NewInt(1), "-": big.NewInt(-1)} {
		want := reading{m: matOf(1, dy(new(big.Int).Mul(greatest, factor), 0))}
		for _, word := range []string{greatest.String(), plus(greatest, 1).String(), plus(greatest, -1).String(), plus(beyond, -1).String(), plus(beyond, -1).String() + ".999999", "1.7976931348623157e308", "17976931348623157E+292", "1.7976931348623158e308"} {
			read("["+sign+word+"]").is(t, word, want)
			sameReading(t, "["+sign+word+"]")
		}
		for _, word := range []string{beyond.String(), plus(beyond, 1).String(), beyond.String() + ".000", two(1024).String(), "1.7976931348623159e308", "1e309", "1e400", "1e800", "1e801", "1e999999", "9" + strings.Repeat("0", 309), strings.Repeat("9", 390)} {
			read("["+sign+word+"]").is(t, word, wrongly(impl.RdNum, 1))
			sameReading(t, "["+sign+word+"]")
		}
	}
	comesBack(t, matOf(1, dy(greatest, 0)))
}

// digitsOfHalf has so many digits of half of the least float's number, 2^-1075, cut off, as a whole number times 10^power.
func digitsOfHalf(many int) (*big.Int, int) {
	power := -323 - many
	unit := ten(-power)
	return unit.Rsh(unit, 1075), power
}

// The least float is read of all that is nearer to it than to 0; what is nearer to 0 is 0.
func TestMatReadLeast(t *testing.T) {
	for sign, factor := range map[string]int{"": 1, "+": 1, "-": -1} {
		least := reading{m: matOf(1, dyInt(factor, -1074))}
		for _, word := range []string{"4.94e-324", "5e-324", "3e-324", "2.4703282292062328e-324", "2.470328229206232721e-324", "7.4e-324", "0.0000049e-318"} {
			read("["+sign+word+"]").is(t, word, least)
			sameReading(t, "["+sign+word+"]")
		}
		for _, word := range []string{"2.4703282292062327e-324", "2.470328229206232720e-324", "2.4e-324", "1e-324", "1e-330", "1e-800", "0e-800", "0", "0e999999", "0.0", "0e-999999"} {
			read("["+sign+word+"]").is(t, word, reading{m: noughts(1)})
			sameReading(t, "["+sign+word+"]")
		}
		for _, many := range []int{20, 100, 300, 380} {
			n, power := digitsOfHalf(many)
			below, above := fmt.Sprint("[", sign, n, "e", power, "]"), fmt.Sprint("[", sign, plus(n, 1), "e", power, "]")
			read(below).is(t, below, reading{m: noughts(1)})
			read(above).is(t, above, least)
		}
	}
}

// What is no decimal number of chapter 6 is none here, though a float of it would be.
func TestMatReadPowersOfTen(t *testing.T) {
	for _, row := range []struct {
		word string
		ok   bool
	}{
		{"1e-800", true}, {"1e-801", false}, {"10e-801", true}, {"0.1e-799", true}, {"0.1e-800", false}, {"-1e-801", false}, {"0e-801", true}, {"123456789e-800", true}, {"123456789e-801", false}, {"1230e-801", true}, {"1e-1000", false}, {"1e-0000400", false}, {"1e-000400", true},
	} {
		want := wrongly(impl.RdNum, 1)
		if row.ok {
			want = reading{m: noughts(1)}
		}
		read("["+row.word+"]").is(t, row.word, want)
		sameReading(t, "["+row.word+"]")
	}
}

// What is written may be as long as may be read, or a byte longer.
func TestComesBackWhereNotTooLong(t *testing.T) {
	for _, row := range []struct {
		n, e int
		back bool
	}{{1, -99, true}, {1, -100, true}, {1, -101, false}, {1, 1000, true}, {1, 1001, false}, {3, 900, true}} {
		if m := matInts(1, row.e, row.n); comesBack(t, m) != row.back {
			t.Fatal(row)
		}
	}
	// Two numbers of 98 bytes, two of 99, and six bytes around them.
	m := matOf(2, dyInt(1, -96), dyInt(3, -97), dyInt(5, -97), dyInt(1, -96))
	if text, _ := sameMatText(t, m); len(text) != impl.MaxText || !comesBack(t, m) {
		t.Fatal(len(text))
	}
	for place := range 4 {
		if comesBack(t, with(m, place, impl.DyNeg(m.A[place]))) {
			t.Fatal("too long")
		}
	}
}
