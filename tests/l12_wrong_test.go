package tests

import (
	"fmt"
	"math/rand"
	"slices"
	"strings"
	"testing"

	"loop.example/g00382/impl"
)

type wrongRow struct {
	text        string
	code, place int
}

func TestMatReadWrongLiterals(t *testing.T) {
	form, num, shape := impl.RdForm, impl.RdNum, impl.RdShape
	rows := []wrongRow{
		// What lacks is at the end of what is plain, behind its blanks, too.
		{"", form, 0}, {" ", form, 1}, {"   ", form, 3}, {"\u3000\t", form, 2}, {"[", form, 1}, {" [", form, 2}, {"[  ", form, 3}, {"[1", form, 2}, {"[1 ", form, 3}, {"[1;", form, 3}, {"[1 2;3 4", form, 8}, {"[1 2;3 4\u3000", form, 9},
		{"[\u0661\u0662", form, 3}, {"[;", form, 2}, {"[\u2212\uff11\u00a0;\u2009", form, 6},
		// What can't stand ahead of the bracket.
		{"1", form, 0}, {"x", form, 0}, {"1]", form, 0}, {"]", form, 0}, {";", form, 0}, {" ]", form, 1}, {"1 [1]", form, 0}, {"x [1]", form, 0}, {"x[1]", form, 0}, {"  1[1]", form, 2}, {";[1]", form, 0}, {"][1]", form, 0}, {"\ufffd[1]", form, 0}, {"\n[1]", form, 0}, {"-[1]", form, 0}, {"\u3000\u0661[1]", form, 1},
		// What can't stand within the brackets.
		{"[[1]]", form, 1}, {"[ [1]]", form, 2}, {"[1[2]]", form, 2}, {"[1 [2]]", form, 3}, {"[1;[2]]", form, 3}, {"[[", form, 1}, {"[1 2;3[", form, 6}, {"[\u0661\u0662[", form, 3},
		// What can't stand behind them.
		{"[1] 2", form, 4}, {"[1]2", form, 3}, {"[1]]", form, 3}, {"[1] ]", form, 4}, {"[1];", form, 3}, {"[1][1]", form, 3}, {"[1] [1]", form, 4}, {"[1]x", form, 3}, {"[1]  x", form, 5}, {"[1 2;3 4]\n", form, 9}, {"[1]\xff", form, 3}, {"[\u0661]\u3000\u0662", form, 4}, {"[1]\x00", form, 3},
		// Words that are no numbers.
		{"[x]", num, 1}, {"[1 x]", num, 3}, {"[1  x]", num, 4}, {"[x 1]", num, 1}, {"[1;x]", num, 3}, {"[1 2;3 x]", num, 7}, {"[1 2;x 4]", num, 5}, {"[1,2]", num, 1}, {"[1\n2]", num, 1}, {"[(1)]", num, 1}, {"[<1 2>]", num, 1}, {"[1e400]", num, 1}, {"[1e801]", num, 1}, {"[0e1234567]", num, 1}, {"[1.]", num, 1}, {"[.5]", num, 1}, {"[+]", num, 1}, {"[1e]", num, 1}, {"[- 1]", num, 1}, {"[1 -]", num, 3},
		{"[nan]", num, 1}, {"[inf]", num, 1}, {"[-inf]", num, 1}, {"[+inf]", num, 1}, {"[1 nan;3 4]", num, 3}, {"[\u0661 \u0662x]", num, 3}, {"[\uff11\u3000\u3000\uff0d]", num, 4}, {"[\xff]", num, 1}, {"[1 \xe2\x88]", num, 3}, {"[1 \ufffd]", num, 3}, {"[\u0661\u0662 \xff\xff x]", num, 4},
		// A word counts as it is to its end, a blank or one of the marks.
		{"[1x]", num, 1}, {"[1;2x;3]", num, 3}, {"[1 2]x", shape, 0}, {"[1-2]", num, 1}, {"[1+2]", num, 1}, {"[1e5;1e5e5]", num, 5}, {"[x;", num, 1}, {"[x[", num, 1}, {"[x", num, 1},
		// What comes first counts.
		{"[x [", num, 1}, {"[[ x", form, 1}, {"[1 x [ ]", num, 3}, {"[1 [ x ]", form, 3}, {"[x] y", num, 1}, {"[1] x", form, 4}, {"x [y]", form, 0}, {"[x y]", num, 1}, {"[1 y x]", num, 3}, {"[x 1e400", num, 1}, {"[1 2 [", form, 5}, {"[1 2 x", num, 5},
		// The shape counts where all up to the bracket is right, ahead of what is behind it.
		{"[]", shape, 0}, {"[] x", shape, 0}, {"[]]", shape, 0}, {"[][1]", shape, 0}, {" [1 2] 3", shape, 1}, {"[1 2] [", shape, 0}, {"[1 2 x]", num, 5}, {"[1 2 x", num, 5}, {"[1 2", form, 4}, {"[1 2;", form, 5}, {"[;;;;;x]", num, 6}, {"[;;;;;[]", form, 6}, {"[;;;;;", form, 6}, {"[1 2 3 4 5 6 x]", num, 13}, {"x []", form, 0}, {"\u3000[1;2];", shape, 1}, {"[1;2]\xff", shape, 0},
	}
	for _, row := range rows {
		read(row.text).is(t, row.text, wrongly(row.code, row.place))
		sameReading(t, row.text)
	}
}

// Every text of few tokens, with blanks between them where they must be, and here and there where they need not be.
func TestMatReadEveryToken(t *testing.T) {
	tokens := []string{"[", "]", ";", "1", "x"}
	lists := [][]int{nil}
	codes := map[int]int{}
	for first := 0; first < len(lists); first++ {
		if len(lists[first]) < 7 {
			for k := range tokens {
				lists = append(lists, append(slices.Clone(lists[first]), k))
			}
		}
		var text string
		for i, k := range lists[first] {
			words := i > 0 && k > 2 && lists[first][i-1] > 2
			if words || (first+i*i)%3 == 0 {
				text += strings.Repeat(" ", 1+(first+i)%2)
			}
			text += tokens[k]
		}
		codes[sameReading(t, text).code]++
	}
	if len(lists) != 97656 || codes[impl.RdWell] != 2 || codes[impl.RdNum] < 1000 || codes[impl.RdShape] < 300 || codes[impl.RdForm] < 50000 {
		t.Fatal(len(lists), codes)
	}
}

// rightTexts has matrices of every N, with blanks, without, and with digits of other scripts.
func rightTexts() []string {
	return []string{"[1]", " [ -1.5e1 ] ", "[1 2;3 4]", "[1 -2.5;0 \u0664]", "\u3000[ \u0661\u2009\u0662 ;\u00a0\uff13 \u2212\u0664 ]\t", "[1 2 3;4 5 6;7 8 9]", "[1 2 3 4;5 6 7 8;9 10 11 12;13 14 15 16]", "[ 0.5 -1 ; 1e3 0 ]"}
}

// A text that ends where something lacks is wrong at its end; or ahead of that, where what was cut is no number or no rune.
func TestMatReadEndsEverywhere(t *testing.T) {
	for _, text := range rightTexts() {
		if got := sameReading(t, text); got.code != impl.RdWell {
			t.Fatal(text, got)
		}
		shut := strings.Index(text, "]")
		for end := range text {
			got := sameReading(t, text[:end])
			if end > shut != (got.code == impl.RdWell) {
				t.Fatal(text[:end], got)
			}
			if got.code == impl.RdForm && got.place != len(wantPlain([]byte(text[:end]))) {
				t.Fatal(text[:end], got)
			}
		}
		for end := range len(text) {
			sameReading(t, text[:end])
			sameReading(t, text[end:])
		}
	}
}

// Every token that can't stand, laid into each place of right texts: with what follows it, and as the last one.
func TestMatReadLaidIn(t *testing.T) {
	for _, text := range rightTexts() {
		for at := range len(text) + 1 {
			for _, token := range []string{"[", "]", ";", " ", "1", " 1 ", "x", " x ", "-", ".", "e", "\xff", "\u0661", "\u2212", "\n", "\x00", "[1]", ";;", "]]", "][", "\u3000", " nan ", " 1e999 "} {
				sameReading(t, text[:at]+token+text[at:])
				sameReading(t, text[:at]+token)
			}
		}
	}
}

// Every byte of right texts taken out, and written over by every byte.
func TestMatReadByteByByte(t *testing.T) {
	for _, text := range []string{"[1]", "[1 -2.5;0 \u0664]", " [1 2; 3 4] ", "\u3000[-1e1\u00a02;3 4]"} {
		for at := range len(text) {
			sameReading(t, text[:at]+text[at+1:])
			for c := range 256 {
				sameReading(t, text[:at]+string([]byte{byte(c)})+text[at+1:])
			}
		}
	}
}

func TestMatReadNoNumbers(t *testing.T) {
	asked := 0
	for _, word := range noNumbers() {
		plain := wantPlain([]byte(word))
		if plain == "" || strings.ContainsAny(plain, " ") || len(word) > 380 {
			continue
		}
		asked++
		for n := 1; n <= 3; n++ {
			for place := range n * n {
				text := inPlace(n, place, word)
				read(text).is(t, text, wrongly(impl.RdNum, 1+2*place))
			}
		}
	}
	if asked < 100 {
		t.Fatal(asked)
	}
}

// Words that are no numbers and marks that can't stand, in two places each: the first one counts.
func TestMatReadTwoWrongPlaces(t *testing.T) {
	for n := 2; n <= impl.MaxN; n++ {
		right := inPlace(n, 0, "1")
		for first := 1; first < len(right)-1; first++ {
			if right[first] != '1' {
				continue
			}
			for _, wrong := range []string{"x", "[", "\xff"} {
				code := impl.RdNum
				if wrong == "[" {
					code = impl.RdForm
				}
				for second := first + 1; second < len(right); second++ {
					for _, other := range []string{"x", "[", "", "\u3000"} {
						text := right[:first] + wrong + right[first+1:second] + other
						read(text).is(t, text, wrongly(code, first))
						text += right[second:]
						// The word may go on, but begins where it did.
						read(text).is(t, text, wrongly(code, first))
					}
				}
			}
		}
	}
}

func TestMatReadDrawnTexts(t *testing.T) {
	source := rand.New(rand.NewSource(127))
	parts := []string{"[", "]", ";", " ", " ", "1", "2", "0", "-", ".", "e", "5", "x", "\u0661", "\u2212", "\u3000", "\xff", "\xe2", "\ufffd", "1 2;3 4", "[1]", "[1 2;3 4]", "; ", " 7", " 8", "nan", "\n", "1e999"}
	for range 60000 {
		var text string
		if source.Intn(3) > 0 {
			text = "["
		}
		for range source.Intn(14) {
			text += parts[source.Intn(len(parts))]
		}
		if source.Intn(2) > 0 {
			text += "]"
		}
		sameReading(t, text)
	}
}

// Texts of the first chapter, broken ones among them, alone and within brackets.
func TestMatReadTextsOfRunes(t *testing.T) {
	for _, text := range texts() {
		for _, whole := range []string{text, "[" + text, "[" + text + "]", "[1 " + text + ";3 4]", text + "[1]", "[1]" + text, "[1 2]" + text} {
			sameReading(t, whole)
		}
	}
	for _, empty := range [][]byte{nil, {}, []byte("[1]")[:0]} {
		m, code, place := impl.MatRead(empty)
		reading{m, code, place}.is(t, "", wrongly(impl.RdForm, 0))
	}
}

func TestMatTextWrongMatrices(t *testing.T) {
	for _, bad := range badMats() {
		got, ok := impl.MatText(bad)
		sameText(t, fmt.Sprint("MatText of ", bad), got, ok, "", false)
	}
	for n := 1; n <= impl.MaxN; n++ {
		for place := range n * n {
			for _, bad := range badDys() {
				got, ok := impl.MatText(with(ones(n), place, bad))
				sameText(t, fmt.Sprint("MatText with ", bad), got, ok, "", false)
			}
		}
	}
}

func TestIvTextWrongIntervals(t *testing.T) {
	for _, bad := range badIvs() {
		got, ok := impl.IvText(bad)
		sameText(t, fmt.Sprint("IvText of ", bad), got, ok, "", false)
	}
}

func TestListTextWrongNumbers(t *testing.T) {
	for _, bad := range badDys() {
		for many := 1; many <= 20; many++ {
			for place := range many {
				if many > 3 && many < 20 && (place+many)%5 > 0 {
					continue
				}
				list := slices.Repeat([]impl.Dy{dyInt(1, 0)}, many)
				list[place] = bad
				got, ok := impl.ListText(list)
				sameText(t, fmt.Sprint("ListText with ", bad), got, ok, "", false)
			}
		}
	}
}

// textCalls has a text of each kind of numbers.
func textCalls() []func(m impl.Mat) ([]byte, bool) {
	return []func(m impl.Mat) ([]byte, bool){
		impl.MatText,
		func(m impl.Mat) ([]byte, bool) { return impl.ListText(m.A) },
		func(m impl.Mat) ([]byte, bool) { return impl.IvText(impl.Iv{Lo: m.A[0], Hi: m.A[len(m.A)-1]}) },
		func(m impl.Mat) ([]byte, bool) { return impl.IvText(impl.Iv{Lo: m.A[0], Hi: m.A[0]}) },
	}
}

// A text that is written over is told anew, the same, and what it was made of stays as it is.
func TestTextMemory(t *testing.T) {
	for n := 1; n <= impl.MaxN; n++ {
		for _, m := range memoryMats(n) {
			if len(m.A) == 0 {
				continue
			}
			was := written(m)
			for i, call := range textCalls() {
				first, ok := call(m)
				second, _ := call(m)
				told := string(first)
				scribble(answers{text: first[:cap(first)]})
				third, again := call(m)
				if string(second) != told || string(third) != told || ok != again {
					t.Fatal(i, told, string(second), string(third))
				}
				if written(m) != was {
					t.Fatal(i, "wrote into its argument", m)
				}
			}
		}
	}
}

// What is read shares nothing, is the same at a second call, and the text and what is behind it stay as they are.
func TestMatReadMemory(t *testing.T) {
	texts := append(rightTexts(), "[0 0;0 0]", "[1 1;1 1]", "[3 3 3;3 3 3;3 3 3]", "[1e300 1e300;1e300 -1e300]", "[1 2", "[1 x]", "[1 2]", "[1] 2", "", "[\xff]", strings.Repeat("[", 500))
	for _, text := range texts {
		b := roomy([]byte(text))
		call := matCall{name: "MatRead of " + text, call: func(impl.Mat, impl.Mat) matAnswers {
			m, code, place := impl.MatRead(b)
			return matAnswers{n: 1000*m.N + 400*code + place, dys: m.A}
		}}
		for _, other := range texts {
			want := call.call(impl.Mat{}, impl.Mat{}).String()
			read(other)
			if got := call.call(impl.Mat{}, impl.Mat{}).String(); got != want {
				t.Fatalf("%s, after another one: %s, not %s", call.name, got, want)
			}
		}
		sameMemory(t, call, impl.Mat{}, impl.Mat{})
		untouched(t, "MatRead", b, []byte(text))
	}
}

// What lies behind a text's length would make another one of it.
func TestTextsBehindTheLength(t *testing.T) {
	all := []byte("[1 2;3 4]] 5 \u0661")
	for end := range len(all) + 1 {
		m, code, place := impl.MatRead(all[:end])
		reading{m, code, place}.is(t, string(all[:end]), wantReading(slices.Clone(all[:end])))
	}
	if string(all) != "[1 2;3 4]] 5 \u0661" {
		t.Fatal(string(all))
	}
	numbers := []impl.Dy{dyInt(1, 0), dyInt(2, 0), dyInt(3, 0), dyInt(4, 0), {E: 9}, dyInt(1, impl.MaxE)}
	limbs := []int{3, 0, 0, 7}
	numbers[0].M.A.L = limbs[:1]
	got, ok := impl.MatText(impl.Mat{N: 2, A: numbers[:4]})
	sameText(t, "MatText", got, ok, "[3 2; 3 4]", true)
	got, ok = impl.ListText(numbers[:4])
	sameText(t, "ListText", got, ok, "3 2 3 4", true)
	got, ok = impl.ListText(numbers[:5])
	sameText(t, "ListText", got, ok, "", false)
	got, ok = impl.MatText(impl.Mat{N: 2, A: numbers[:3]})
	sameText(t, "MatText", got, ok, "", false)
	got, ok = impl.IvText(impl.Iv{Lo: numbers[1], Hi: numbers[0]})
	sameText(t, "IvText", got, ok, "<2 3>", true)
	if !slices.Equal(limbs, []int{3, 0, 0, 7}) {
		t.Fatal(limbs)
	}
}

// One list of numbers may be handed in as a matrix, a list and ends, and one list of limbs as all numbers.
func TestTextsOfNumbersThatShare(t *testing.T) {
	limbs := []int{65535, 7, 65535, 1, 9}
	var all []impl.Dy
	for i := range 16 {
		all = append(all, impl.Dy{M: impl.Whole{Neg: i%3 == 0, A: impl.Nat{L: limbs[:1+i%4]}}, E: 5*i%7 - 3})
	}
	whole := impl.Mat{N: 4, A: all}
	was := written(whole)
	sameMatText(t, whole)
	sameListText(t, all)
	for i, d := range all {
		sameIvText(t, alone(d))
		sameMatText(t, impl.Mat{N: 1, A: all[i : i+1]})
		if got, ok := impl.IvText(impl.Iv{Lo: d, Hi: d}); !ok || string(got) != "<"+wantDyText(d)+" "+wantDyText(d)+">" {
			t.Fatal(string(got))
		}
	}
	if written(whole) != was {
		t.Fatal(written(whole))
	}
}
