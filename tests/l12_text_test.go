package tests

import (
	"fmt"
	"math/big"
	"math/rand"
	"regexp"
	"slices"
	"strconv"
	"strings"
	"testing"

	"loop.example/g00382/impl"
)

// reading is what MatRead answers.
type reading struct {
	m           impl.Mat
	code, place int
}

func read(text string) reading {
	m, code, place := impl.MatRead([]byte(text))
	return reading{m, code, place}
}

// wrongly is a reading that refuses.
func wrongly(code int, place int) reading { return reading{code: code, place: place} }

// wantPlain is a text made plain rune by rune, by the document's words.
func wantPlain(b []byte) string {
	var text strings.Builder
	for _, r := range wantRunes(b) {
		text.WriteRune(wantPlainRune(rune(r)))
	}
	return text.String()
}

func wantPlainRune(r rune) rune {
	for _, nought := range []rune{48, 1632, 1776, 2406, 65296} {
		if nought <= r && r < nought+10 {
			return '0' + r - nought
		}
	}
	for plain, others := range map[rune][]rune{'+': {65291}, '-': {8722, 65293}, ' ': {9, 160, 8201, 12288}} {
		if slices.Contains(others, r) {
			return plain
		}
	}
	return r
}

// wantNumber is the number of the float of a word, by Go's own reading of floats.
func wantNumber(word string) (impl.Dy, bool) {
	if _, ok := wantRead(word); !ok {
		return impl.Dy{}, false
	}
	x, err := strconv.ParseFloat(word, 64)
	if err != nil {
		return impl.Dy{}, false
	}
	f := fromGo(x)
	n := big.NewInt(int64(f.M))
	if f.Neg {
		n.Neg(n)
	}
	return dy(n, f.E), true
}

// tokenForm is a token of a plain text.
var tokenForm = regexp.MustCompile(`[\[\];]|[^\[\]; ]+`)

func wantReading(b []byte) reading {
	if len(b) > impl.MaxText {
		return wrongly(impl.RdLong, 0)
	}
	return wantPlainReading(wantPlain(b))
}

// wantPlainReading goes over the tokens once, by the document's words.
func wantPlainReading(text string) reading {
	open, shut := -1, false
	rows := [][]impl.Dy{nil}
	for _, at := range tokenForm.FindAllStringIndex(text, -1) {
		token := text[at[0]:at[1]]
		last := len(rows) - 1
		switch {
		case shut || (open < 0) != (token == "["):
			return wrongly(impl.RdForm, at[0])
		case token == "[":
			open = at[0]
		case token == ";":
			rows = append(rows, nil)
		case token == "]":
			if slices.ContainsFunc(rows, func(row []impl.Dy) bool { return len(row) != len(rows) }) || len(rows) > impl.MaxN {
				return wrongly(impl.RdShape, open)
			}
			shut = true
		default:
			d, ok := wantNumber(token)
			if !ok {
				return wrongly(impl.RdNum, at[0])
			}
			rows[last] = append(rows[last], d)
		}
	}
	if !shut {
		return wrongly(impl.RdForm, len(text))
	}
	return reading{m: impl.Mat{N: len(rows), A: slices.Concat(rows...)}}
}

// is fails unless the reading is that one.
func (r reading) is(t *testing.T, text string, want reading) {
	t.Helper()
	if r.code != want.code || r.place != want.place {
		t.Fatalf("MatRead of %q: %d and %d, not %d and %d", text, r.code, r.place, want.code, want.place)
	}
	if want.code != impl.RdWell {
		refusedMat(t, "MatRead of "+text, r.m, false)
		return
	}
	sameAsMat(t, "MatRead of "+text, r.m, true, want.m)
}

func sameReading(t *testing.T, text string) reading {
	t.Helper()
	got := read(text)
	got.is(t, text, wantReading([]byte(text)))
	return got
}

// wantMatText writes rows between brackets, numbers by big rationals.
func wantMatText(m impl.Mat) (string, bool) {
	text := "["
	for i, d := range m.A {
		if i > 0 && i%m.N == 0 {
			text += "; "
		} else if i > 0 {
			text += " "
		}
		if !isWritten(d) {
			return "", false
		}
		text += wantDyText(d)
	}
	return text + "]", true
}

func isWritten(d impl.Dy) bool { return d.E >= -100 && d.E <= 1000 }

func wantDyText(d impl.Dy) string { return ratOf(d).FloatString(max(0, -d.E)) }

func sameText(t *testing.T, name string, got []byte, ok bool, want string, told bool) {
	t.Helper()
	if ok != told || string(got) != want {
		t.Fatalf("%s is %q, %t, not %q, %t", name, got, ok, want, told)
	}
}

func sameMatText(t *testing.T, m impl.Mat) (string, bool) {
	t.Helper()
	want, told := wantMatText(m)
	got, ok := impl.MatText(m)
	sameText(t, fmt.Sprint("MatText of ", m), got, ok, want, told)
	return want, told
}

// comesBack writes what was read and reads that: promise 15. It says whether that was not too long.
func comesBack(t *testing.T, m impl.Mat) bool {
	t.Helper()
	text, told := sameMatText(t, m)
	if !told {
		return false
	}
	if len(text) > impl.MaxText {
		read(text).is(t, text, wrongly(impl.RdLong, 0))
		return false
	}
	read(text).is(t, text, reading{m: m})
	return true
}

func TestTextConstants(t *testing.T) {
	if impl.RdWell != 0 || impl.RdLong != 1 || impl.RdForm != 2 || impl.RdNum != 3 || impl.RdShape != 4 {
		t.Fatal(impl.RdWell, impl.RdLong, impl.RdForm, impl.RdNum, impl.RdShape)
	}
}

// Each with its numbers times 2^e.
func TestMatReadLiterals(t *testing.T) {
	rows := []struct {
		text    string
		n, e    int
		numbers []int
	}{
		{"[1]", 1, 0, []int{1}},
		{"[0]", 1, 0, []int{0}},
		{"[-0]", 1, 0, []int{0}},
		{"[+7]", 1, 0, []int{7}},
		{"[-2.5]", 1, -1, []int{-5}},
		{"[ 1 ]", 1, 0, []int{1}},
		{"  [1]  ", 1, 0, []int{1}},
		{" [   1   ]", 1, 0, []int{1}},
		{"[1 2;3 4]", 2, 0, []int{1, 2, 3, 4}},
		{"[1 2; 3 4]", 2, 0, []int{1, 2, 3, 4}},
		{"[1 2 ;3 4]", 2, 0, []int{1, 2, 3, 4}},
		{" [ 1  2   ;    3     4 ] ", 2, 0, []int{1, 2, 3, 4}},
		{"\t[1\u00a02;\u20093\u30004\t]\u3000", 2, 0, []int{1, 2, 3, 4}},
		{"[1 -2.5;0 \u0664]", 2, -1, []int{2, -5, 0, 8}},
		{"[\u22121.5 +\u06f2.\u0665;\uff0d1e1 \uff0b1\uff10e\u22121]", 2, -1, []int{-3, 5, -20, 2}},
		{"[0.5]", 1, -1, []int{1}},
		{"[1 2 3;4 5 6;7 8 9]", 3, 0, []int{1, 2, 3, 4, 5, 6, 7, 8, 9}},
		{"[1e0 2e+0 3E-0;4e00 5.0 6.00;70e-1 800E-2 0.9e1]", 3, 0, []int{1, 2, 3, 4, 5, 6, 7, 8, 9}},
		{"[-1 0 1; 0 0 -0; +1 -0.0 0e9]", 3, 0, []int{-1, 0, 1, 0, 0, 0, 1, 0, 0}},
		{"[1 2 3 4;5 6 7 8;9 10 11 12;13 14 15 16]", 4, 0, []int{1, 2, 3, 4, 5, 6, 7, 8, 9, 10, 11, 12, 13, 14, 15, 16}},
		{"[0.25 0.50 0.75 1; 1.25 1.5 1.75 2; -0.25 -0.5 -0.75 -1; 0 1e2 25e-2 00.250]", 4, -2, []int{1, 2, 3, 4, 5, 6, 7, 8, -1, -2, -3, -4, 0, 400, 1, 1}},
	}
	for _, row := range rows {
		want := reading{m: matInts(row.n, row.e, row.numbers...)}
		read(row.text).is(t, row.text, want)
		sameReading(t, row.text)
		comesBack(t, want.m)
	}
}

// numberRow is a word, and the number of its float: n times 2^e.
type numberRow struct {
	word string
	n    int
	e    int
}

// roundedRows has words whose float is not their number, and some whose float is.
func roundedRows() []numberRow {
	return []numberRow{
		{"0.1", 0x1999999999999a, -56}, {"-0.1", -0x1999999999999a, -56}, {"0.3", 0x13333333333333, -54}, {"1e-1", 0x1999999999999a, -56}, {"00.1000", 0x1999999999999a, -56},
		{"9007199254740993", 1, 53}, {"9007199254740993.0000000000000001", 1<<52 + 1, 1}, {"9007199254740995", 1<<52 + 2, 1}, {"-9007199254740995", -1<<52 - 2, 1}, {"9007199254740991", 1<<53 - 1, 0},
		{"1.00000000000000011102230246251565404", 1, 0}, {"1.00000000000000011102230246251565405", 1<<52 + 1, -52}, {"0.99999999999999999999999999", 1, 0},
		{"1e22", 0x10f0cf064dd592, 21}, {"1e23", 0x152d02c7e14af6, 24}, {"1e308", 0x11ccf385ebc8a0, 971}, {"1e-308", 0x730d67819e8d2, -1074},
		{"5e-324", 1, -1074}, {"-3e-324", -1, -1074}, {"2e-324", 0, 0}, {"-2e-324", 0, 0}, {"1e-400", 0, 0}, {"-1e-800", 0, 0}, {"123456789e-800", 0, 0}, {"2.2250738585072014e-308", 1, -1022},
	}
}

func TestMatReadRoundedNumbers(t *testing.T) {
	for _, row := range roundedRows() {
		d := dyInt(row.n, row.e)
		read("["+row.word+"]").is(t, row.word, reading{m: matOf(1, d)})
		sameReading(t, "["+row.word+"]")
		for n := 1; n <= impl.MaxN; n++ {
			for place := range n * n {
				text := inPlace(n, place, row.word)
				read(text).is(t, text, reading{m: with(ones(n), place, d)})
			}
		}
	}
}

// inPlace is a text of ones, with a word at one place.
func inPlace(n int, place int, word string) string {
	text := "["
	for i := range n * n {
		switch {
		case i > 0 && i%n == 0:
			text += ";"
		case i > 0:
			text += " "
		}
		if i == place {
			text += word
		} else {
			text += "1"
		}
	}
	return text + "]"
}

// A number of any form is what its float is, and nothing else is one.
func TestMatReadForms(t *testing.T) {
	told := 0
	for i, word := range slices.Concat(numberTexts(), noNumbers()) {
		text := inPlace(2, i%4, word)
		if sameReading(t, text).code == impl.RdWell {
			told++
		}
	}
	if told < 2000 {
		t.Fatal(told)
	}
}

// drawnBlanks is one blank at least, or none where none need be.
func drawnBlanks(source *rand.Rand, least int) string {
	blanks := []string{" ", "\t", "\u00a0", "\u2009", "\u3000"}
	var text string
	for range least + max(0, source.Intn(6)-3) {
		text += blanks[source.Intn(len(blanks))]
	}
	return text
}

// drawnWord is a number in some form, in digits of some script.
func drawnWord(source *rand.Rand) string {
	word := []string{"", "", "+", "-", "\u2212", "\uff0d", "\uff0b"}[source.Intn(7)]
	word += strconv.Itoa(source.Intn([]int{2, 100, 1 << 40}[source.Intn(3)]))
	if source.Intn(2) == 0 {
		word += "." + strconv.Itoa(source.Intn(1000)) + strings.Repeat("5", source.Intn(5))
	}
	if source.Intn(3) == 0 {
		word += []string{"e", "E", "e-", "e+", "E\u2212"}[source.Intn(5)] + strconv.Itoa(source.Intn([]int{4, 40, 330}[source.Intn(3)]))
	}
	return inScript(word, []int{48, 1632, 1776, 2406, 65296}[source.Intn(5)])
}

// drawnText has rows of numbers, in most cases as many as there are rows.
func drawnText(source *rand.Rand, n int) string {
	text := drawnBlanks(source, 0) + "["
	for i := range n {
		if i > 0 {
			text += drawnBlanks(source, 0) + ";"
		}
		text += drawnBlanks(source, 0)
		for j := range n {
			if j > 0 {
				text += drawnBlanks(source, 1)
			}
			text += drawnWord(source)
		}
	}
	return text + drawnBlanks(source, 0) + "]" + drawnBlanks(source, 0)
}

func TestMatReadDrawn(t *testing.T) {
	source := rand.New(rand.NewSource(121))
	for n := 1; n <= impl.MaxN; n++ {
		var well, back int
		for range 1500 {
			got := sameReading(t, drawnText(source, n))
			if got.code != impl.RdWell {
				continue
			}
			well++
			if comesBack(t, got.m) {
				back++
			}
		}
		if well < 600 || back < 60 {
			t.Fatal(n, well, back)
		}
	}
}

// What is read, written, is read as the same: promise 15, of matrices of floats that are drawn.
func TestMatTextComesBack(t *testing.T) {
	source := rand.New(rand.NewSource(122))
	for n := 1; n <= impl.MaxN; n++ {
		back := 0
		for i := range 600 {
			m := floatMat(source, n, []int{3, 20, 100, 1000}[i%4])
			if comesBack(t, m) {
				back++
			}
			if small := smallMat(source, n); !comesBack(t, small) || !comesBack(t, shiftedMat(small, -i%7)) {
				t.Fatal(small)
			}
		}
		if back < 150 || back == 600 {
			t.Fatal(n, back)
		}
	}
}

// floatMat has numbers of floats with powers of two not far from 0.
func floatMat(source *rand.Rand, n int, far int) impl.Mat {
	var list []impl.Dy
	for range n * n {
		m := int64(someM(source)) >> source.Intn(53)
		if source.Intn(2) == 0 {
			m = -m
		}
		list = append(list, dy(big.NewInt(m), max(min(source.Intn(2*far+1)-far, mostE), leastE)))
	}
	return matOf(n, list...)
}

func nearestFloat(d impl.Dy) impl.Dy {
	if scaled(d).Sign() == 0 {
		return impl.Dy{}
	}
	f, _ := wantFl(fracOfDy(d), impl.RdEven)
	if f.Neg {
		return dyInt(-f.M, f.E)
	}
	return dyInt(f.M, f.E)
}

// What no float is comes back as the float next to it, the nearest one.
func TestMatTextComesBackAsFloats(t *testing.T) {
	source := rand.New(rand.NewSource(123))
	for n := 1; n <= 2; n++ {
		rounded := 0
		for range 300 {
			m := someMat(source, n, 1+source.Intn(12), 90)
			text, told := sameMatText(t, m)
			if !told || len(text) > impl.MaxText {
				continue
			}
			near := impl.Mat{N: n}
			for _, d := range m.A {
				near.A = append(near.A, nearestFloat(d))
			}
			read(text).is(t, text, reading{m: near})
			if !impl.MatEq(m, near) {
				rounded++
			}
		}
		if rounded < 50 {
			t.Fatal(n, rounded)
		}
	}
}
