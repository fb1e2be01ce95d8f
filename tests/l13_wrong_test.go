package tests

import (
	"fmt"
	"math/rand"
	"slices"
	"strings"
	"testing"

	"loop.example/g00382/impl"
)

func TestDeskLineWrongLiterals(t *testing.T) {
	form, num, shape := impl.RdForm, impl.RdNum, impl.RdShape
	for _, row := range []wrongRow{
		// What lacks is at the end of what is plain, behind its blanks, too.
		{"det", form, 3}, {"det ", form, 4}, {" det", form, 4}, {"det\u3000\u3000", form, 5}, {"det [", form, 5}, {"det[", form, 4}, {"det [1", form, 6}, {"det [1;", form, 7}, {"det [\u0661\u0662", form, 7}, {"add", form, 3}, {"add [1", form, 6}, {"add [1]", form, 7}, {"add [1] ", form, 8}, {"add [1] [", form, 9}, {"add [1] [1", form, 10}, {"exp 1", form, 5}, {"exp 1 ", form, 6}, {"exp 1 [", form, 7}, {"exp \u0661\u0662", form, 6},
		// What can't stand ahead of the bracket.
		{"det 1", form, 4}, {"det x", form, 4}, {"det 1 [1]", form, 4}, {"det x [1]", form, 4}, {"det 3[1]", form, 4}, {"det\u3000\u3000x", form, 5}, {"det ]", form, 4}, {"det ;", form, 4}, {"det ;[1]", form, 4}, {"add 1 [1] [1]", form, 4}, {"add [1];[1]", form, 7}, {"add [1] 2", form, 8}, {"add [1] x [1]", form, 8}, {"add [1]x[1]", form, 7}, {"add [1] 1 [1]", form, 8}, {"exp 1 2 [1]", form, 6}, {"exp 1 x", form, 6}, {"exp 1 ;", form, 6}, {"exp 1 ]", form, 6},
		// What can't stand within the brackets.
		{"det [[1]]", form, 5}, {"det [1 [2]]", form, 7}, {"add [1] [[1]]", form, 9}, {"add [[1]] [1]", form, 5}, {"inv 1[[2]]", form, 6},
		// What can't stand behind them.
		{"det [1] x", form, 8}, {"det [1] 2", form, 8}, {"det [1] [1]", form, 8}, {"det [1][1]", form, 7}, {"det [1]]", form, 7}, {"det [1];", form, 7}, {"det [1]\n", form, 7}, {"det [1] \xff", form, 8}, {"add [1] [1] x", form, 12}, {"add [1][1][1]", form, 10}, {"add [1] [1]]", form, 11}, {"exp 1 [1] x", form, 10}, {"exp 1 [1] [1]", form, 10}, {"root 1 [4] 5", form, 11}, {"rank [\u0661 \u0662;\u0663 \u0664]\u3000x", form, 15},
		// Words that are no numbers.
		{"det [x]", num, 5}, {"det [1 x]", num, 7}, {"det [\xff]", num, 5}, {"det [\u0661 \u0662;\u0663 x]", num, 11}, {"det [1e400]", num, 5}, {"det [nan]", num, 5}, {"det [inf]", num, 5}, {"add [x] y", num, 5}, {"add [1] [x]", num, 9}, {"add [1] [1e400]", num, 9}, {"exp 1 [x]", num, 7}, {"exp 1[x]", num, 6}, {"  inv\u2009\u0661\u2009[ x]", num, 10},
		// A number of a line that is none: behind the word, whatever stands there.
		{"exp", num, 3}, {"exp ", num, 3}, {"  exp  ", num, 5}, {"exp [1]", num, 3}, {"exp[1]", num, 3}, {"exp x [1]", num, 3}, {"exp  x", num, 3}, {"exp -1 [1]", num, 3}, {"exp 1000 [1]", num, 3}, {"exp 8; [1]", num, 3}, {"exp ;8 [1]", num, 3}, {"exp 8] [1]", num, 3}, {"root", num, 4}, {"root [4]", num, 4}, {"\u3000root\u3000[4]", num, 5}, {"inv 1.5 [2]", num, 3}, {"inv \xff [2]", num, 3},
		{"float", num, 5}, {"float ", num, 5}, {"float x", num, 5}, {"float[1]", num, 5}, {"float [1]", num, 5}, {"  float", num, 7}, {"\u3000float\u3000x", num, 6}, {"float 1 2", num, 5}, {"float 1 x", num, 5}, {"float - 1", num, 5}, {"float -nan", num, 5}, {"float +nan", num, 5}, {"float Inf", num, 5}, {"float NaN", num, 5}, {"float infinity", num, 5}, {"float 1.", num, 5}, {"float .5", num, 5}, {"float 1e801", num, 5}, {"float 1e-801", num, 5}, {"float 1\n", num, 5}, {"float 1\r", num, 5}, {"float 1]", num, 5}, {"float \xff", num, 5}, {"float 1;", num, 5},
		// The shape counts where all up to the bracket is right, ahead of what is behind it.
		{"det []", shape, 4}, {"det[]", shape, 3}, {"det [1 2]", shape, 4}, {"det [1 2] x", shape, 4}, {"det [1 2]]", shape, 4}, {"det [1;2] [", shape, 4}, {"det [1 2 x]", num, 9}, {"det [1 2 [", form, 9}, {"add [1 2] [x]", shape, 4}, {"add [1 2] x", shape, 4}, {"add [1 2]", shape, 4}, {"add [1] [1 2]", shape, 8}, {"add [1] [1 2] x", shape, 8}, {"add [1 2] [1 2]", shape, 4}, {"add [1 x] [1 2]", num, 7}, {"exp 1[1 2]", shape, 5}, {"exp 1 [1 2] x", shape, 6}, {"exp x [1 2]", num, 3}, {"det [1 0 0 0 0;0 1 0 0 0;0 0 1 0 0;0 0 0 1 0;0 0 0 0 1]", shape, 4},
		// No word, or none of the desk.
		{"", form, 0}, {" ", form, 0}, {"\u3000\t", form, 0}, {"[1]", form, 0}, {"  [1]", form, 0}, {"[", form, 0}, {"foo", form, 0}, {"  foo", form, 0}, {"foo [x]", form, 0}, {"foo [1 2] x", form, 0}, {"\xff", form, 0}, {"\n", form, 0}, {"\r", form, 0}, {"1", form, 0}, {"]", form, 0}, {";", form, 0}, {"float1", form, 0}, {"float1 2", form, 0}, {"exp1 [1]", form, 0}, {"det] [1]", form, 0}, {"det;[1]", form, 0}, {"det\n[1]", form, 0}, {"det\x00 [1]", form, 0}, {"\ndet [1]", form, 0}, {"\u200bdet [1]", form, 0}, {"\ufeffdet [1]", form, 0}, {"det\xff[1]", form, 0}, {"\xffdet [1]", form, 0}, {"d\u0435t [1]", form, 0}, {"\uff44\uff45\uff54 [1]", form, 0}, {"; det [1]", form, 0}, {"1 det [1]", form, 0}, {"det,[1]", form, 0},
	} {
		want := wrongLine(row.code, row.place)
		lineIs(t, row.text, want)
		sameLine(t, row.text)
		if strings.Contains(row.text, "\n") {
			continue
		}
		got, ok := impl.Desk([]byte("rank [1]\n" + row.text + "\ndet [2]"))
		sameText(t, fmt.Sprintf("Desk with %q", row.text), got, ok, "1\n"+want+"\n2\n", true)
	}
}

// notWords are words near those of the desk that are none of them.
func notWords() []string {
	words := append(matWords(), "float")
	var wrong []string
	for _, word := range words {
		wrong = append(wrong, strings.ToUpper(word), strings.ToUpper(word[:1])+word[1:], word+word, word+"s", word+"1", word+"-", word+";", word+"]", word+"]x", word+":", word+"\n", word+"\r", word+"\x00", word+"\xff", word+"\ufffd", "x"+word, "-"+word, "]"+word, ";"+word, "\xff"+word, word+"\u0661", word+"\u2212")
		for at := range len(word) {
			wrong = append(wrong, word[:at], word[at+1:], word[:at]+strings.ToUpper(word[at:at+1])+word[at+1:])
			for c := 'a'; c <= 'z'; c++ {
				wrong = append(wrong, word[:at]+string(c)+word[at+1:], word[:at]+string(c)+word[at:])
			}
		}
	}
	return slices.DeleteFunc(wrong, func(word string) bool { return slices.Contains(words, word) })
}

func TestDeskLineWrongWords(t *testing.T) {
	words := notWords()
	if len(words) < 2000 {
		t.Fatal(len(words))
	}
	for _, word := range words {
		for _, rest := range []string{"", " ", " [1]", "[1]", " 3 [1]", " [1] [1]", " 1", " [x]", " [1 2] x"} {
			lineIs(t, word+rest, wrongLine(impl.RdForm, 0))
			lineIs(t, "\u3000 "+word+rest, wrongLine(impl.RdForm, 0))
		}
		sameLine(t, word+" 3 [1]")
	}
}

// Every line of few tokens behind a word, with blanks between them where they must be, and here and there where they need not be.
func TestDeskLineEveryToken(t *testing.T) {
	tokens := []string{"[", "]", ";", "1", "x"}
	lists := [][]int{nil}
	kinds := map[string]int{}
	for first := 0; first < len(lists); first++ {
		if len(lists[first]) < 6 {
			for k := range tokens {
				lists = append(lists, append(slices.Clone(lists[first]), k))
			}
		}
		for i, word := range []string{"det", "add", "exp", "float", "foo"} {
			line := word
			for j, k := range lists[first] {
				words := k > 0 && (j == 0 || k > 2 && lists[first][j-1] > 2)
				if words || (first+i+j*j)%3 == 0 {
					line += strings.Repeat(" ", 1+(first+j)%2)
				}
				line += tokens[k]
			}
			answer := sameLine(t, line)
			kinds[word+answer[:min(3, len(answer))]]++
		}
	}
	if len(lists) != 19531 || kinds["foo? 2"] != len(lists) || kinds["float1 0"] != 1 || kinds["det1"] != 1 || kinds["add[2]"] != 1 || kinds["exp[2."] != 1 {
		t.Fatal(len(lists), kinds)
	}
	for _, kind := range []string{"det? 2", "det? 3", "det? 4", "add? 2", "add? 3", "add? 4", "exp? 2", "exp? 3", "exp? 4"} {
		if kinds[kind] < 10 {
			t.Fatal(kind, kinds)
		}
	}
}

// rightLines has a line of each kind, with blanks, without, and with digits of other scripts.
func rightLines() []string {
	return []string{
		"det [1 2;3 4]", "det[1]", " turn\u3000[ -1.5e1 ] ", "poly [\u0661\u2009\u0662 ;\u00a0\uff13 \u2212\u0664 ]\t", "rank [1 2 3;4 5 6;7 8 9]",
		"exp 8 [0]", "root 4[4]", "\tinv \u0661\uff12 [2 0;0 4] ", "inv 003[2]",
		"add [1] [2]", "mul[1 2;3 4][0 1;1 0]", " sub\u2009[ \u0661 ]\u3000[ 0.5 ] ", "float 0.5", "  float\u3000\u2212\u0661e2 ", "float nan",
	}
}

// A line that is cut lacks something, or says less.
func TestDeskLineEndsEverywhere(t *testing.T) {
	for _, line := range rightLines() {
		if answer := sameLine(t, line); answer[0] == '?' || answer == "none" {
			t.Fatal(line, answer)
		}
		shut := strings.LastIndex(line, "]")
		for end := range len(line) {
			answer := sameLine(t, line[:end])
			if shut >= 0 && end > shut == (answer[0] == '?') {
				t.Fatal(line[:end], answer)
			}
			sameLine(t, line[end:])
		}
	}
}

// Every token, laid into each place of right lines: with what follows it, and as the last one.
func TestDeskLineLaidIn(t *testing.T) {
	for _, line := range rightLines() {
		for at := range len(line) + 1 {
			for _, token := range []string{"[", "]", ";", " ", "1", " 1 ", "x", " x ", "-", ".", "e", "\xff", "\u0661", "\u2212", "\n", "\x00", "[1]", " [1 2] ", ";;", "]]", "][", "\u3000", " nan ", " 1e999 ", " det ", "float ", "00"} {
				sameLine(t, line[:at]+token+line[at:])
				sameLine(t, line[:at]+token)
			}
		}
	}
}

// Every byte of right lines taken out, and written over by every byte: as a line, and as a text of lines.
func TestDeskByteByByte(t *testing.T) {
	for _, line := range rightLines() {
		for at := range len(line) {
			sameLine(t, line[:at]+line[at+1:])
			for c := range 256 {
				other := line[:at] + string([]byte{byte(c)}) + line[at+1:]
				sameLine(t, other)
				sameDesk(t, other)
			}
		}
	}
}

// A shape that is wrong counts ahead of what is behind it: in the first matrix, and in the second.
func TestDeskLineWrongShapes(t *testing.T) {
	shapes := []string{"[]", "[;]", "[1 2]", "[1;2]", "[1 2;3]", "[1;2 3]", "[1 2;3 4;5 6]", "[1 2 3;4 5 6]", "[1 2 3;4 5 6;7 8]", "[;1]", "[1 2;3 4;]", "[1;;1]", "[ ; ; ; ; ]", "[1 0 0 0 0;0 1 0 0 0;0 0 1 0 0;0 0 0 1 0;0 0 0 0 1]", "[\u0661 \u0662]"}
	behind := []string{"", " ", " x", "x", "]", ";", " [", "[x]", " [1 2]", "[1]", " [1] x", "\xff", " 1e999"}
	for _, shape := range shapes {
		for _, rest := range behind {
			for _, word := range matWords() {
				line := word
				if slices.Contains(numberWords(), word) {
					line += " 3"
				}
				lineIs(t, line+" "+shape+rest, wrongLine(impl.RdShape, len(line)+1))
				lineIs(t, line+shape+rest, wrongLine(impl.RdShape, len(line)))
				sameLine(t, line+shape+rest)
			}
			for _, word := range twoWords() {
				for n := 1; n <= impl.MaxN; n++ {
					line := word + " " + inPlace(n, 0, "7") + "\u3000"
					lineIs(t, line+shape+rest, wrongLine(impl.RdShape, len(line)-2))
				}
			}
		}
	}
}

// What comes behind the last matrix can't stand there, even where the matrix has no answer.
func TestDeskLineBehind(t *testing.T) {
	for _, word := range matWords() {
		for n := 1; n <= impl.MaxN; n++ {
			for _, first := range []string{inPlace(n, 0, "2"), inPlace(n, 0, "0")} {
				line := word + first
				switch {
				case slices.Contains(numberWords(), word):
					line = word + " 999" + first
				case slices.Contains(twoWords(), word):
					line += inPlace(1, 0, "3")
				}
				if answer := sameLine(t, line); answer[0] == '?' {
					t.Fatal(line, answer)
				}
				for _, rest := range []string{"x", "1", "[", "]", ";", "[1]", "\n", "\r", "\x00", "\xff", "\u0661", "\ufffd", "-", "[x]", "[1 2]", "x ", "] x"} {
					lineIs(t, line+rest, wrongLine(impl.RdForm, len(line)))
					lineIs(t, line+" \u3000"+rest, wrongLine(impl.RdForm, len(line)+2))
				}
			}
		}
	}
}

// A number ahead of a matrix can't stand where none is asked, and lacks where one is.
func TestDeskLineNumberOrNone(t *testing.T) {
	for n := 1; n <= impl.MaxN; n++ {
		m := inPlace(n, 0, "4")
		for _, word := range slices.Concat(oneWords(), twoWords()) {
			for _, number := range []string{"0", "1", "12", "123", "1234", "-1", "x", "\u0661"} {
				for _, blank := range []string{"", " "} {
					lineIs(t, word+" "+number+blank+m, wrongLine(impl.RdForm, len(word)+1))
					lineIs(t, word+" "+number+blank+m+blank+m, wrongLine(impl.RdForm, len(word)+1))
				}
			}
		}
		for _, word := range numberWords() {
			for _, rest := range []string{"", " ", "x", " x", m, "]"} {
				lineIs(t, word+m+rest, wrongLine(impl.RdNum, len(word)))
				lineIs(t, word+"\u3000"+m+rest, wrongLine(impl.RdNum, len(word)))
			}
			for _, number := range []string{"0", "1", "12", "123", "\u0661"} {
				// A second number is none, and can't stand ahead of the matrix.
				lineIs(t, word+" 3 "+number+m, wrongLine(impl.RdForm, len(word)+3))
				lineIs(t, word+" "+m+" "+number, wrongLine(impl.RdNum, len(word)))
			}
		}
	}
}

// Two wrong things in a line: what the chapter asks first counts.
func TestDeskLineTwoWrongPlaces(t *testing.T) {
	wrongs := []string{"x", "[", "]", ";", "\xff", "1", " "}
	for _, line := range []string{"det [1 2;3 4]", "add [1] [2]", "exp 8 [1]", "sub[1 2;3 4][5 6;7 8]", "float 1.5"} {
		for first := range len(line) {
			for second := first + 1; second < len(line); second++ {
				for _, one := range wrongs {
					for _, other := range wrongs {
						sameLine(t, line[:first]+one+line[first+1:second]+other+line[second+1:])
					}
				}
			}
		}
	}
}

func TestDeskLineDrawnWrong(t *testing.T) {
	source := rand.New(rand.NewSource(137))
	parts := []string{"[", "]", ";", " ", " ", "1", "2", "0", "-", ".", "e", "x", "\u0661", "\u2212", "\u3000", "\xff", "\xe2", "\ufffd", "[1]", "[1 2;3 4]", " [2]", "; ", " 7", "nan", "\n", "1e999", "det", "add"}
	words := append(matWords(), "float", "foo", "")
	for range 60000 {
		line := strings.Repeat(" ", max(0, source.Intn(5)-3)) + words[source.Intn(len(words))]
		if source.Intn(2) == 0 {
			line += " " + []string{"1", "20", "300", "4000", "x"}[source.Intn(5)]
		}
		if source.Intn(3) > 0 {
			line += []string{"[", " [", "[1", "[1]", "[1] [2"}[source.Intn(5)]
		}
		for range source.Intn(8) {
			line += parts[source.Intn(len(parts))]
		}
		if source.Intn(2) == 0 {
			line += "]"
		}
		sameLine(t, line)
	}
}

// Texts of the first chapter, broken ones among them: alone, ahead of a word, as one, and behind it.
func TestDeskTextsOfRunes(t *testing.T) {
	for _, text := range texts() {
		for _, whole := range []string{text, text + "det [1]", text + "float 1", "det" + text, "det" + text + "[1]", "det [" + text + "]", "add [1]" + text + "[1]", "exp " + text + " [1]", "inv 1" + text + "[1]", "float " + text, "float 1" + text, "turn [1]" + text, "[" + text} {
			sameLine(t, whole)
			sameDesk(t, whole)
			sameDesk(t, "rank [0]\n"+whole+"\n"+whole)
		}
	}
}

// deskMemoryLines has right lines, wrong ones, one that is too long, and such as have no answer.
func deskMemoryLines() []string {
	return append(rightLines(), "", " ", "foo", "det", "det [1 2]", "exp x [1]", "inv 3 [0]", "add [1] [1 0;0 1]", "float", "float 1e400", "float inf", "det [1] 2", "\xff", "norm [0]", "trace [0 0;0 0]", "rank [0]", "adj [7]", "poly [0]", "turn [0]", "mul [0] [0]", filled("det [5]", impl.MaxText), filled("det [5]", impl.MaxText+1))
}

// What is answered shares nothing, is the same at a second call and after other lines, and the line and what is behind it stay as they are.
func TestDeskMemory(t *testing.T) {
	lines := deskMemoryLines()
	calls := []func(b []byte) ([]byte, bool){
		func(b []byte) ([]byte, bool) { return impl.DeskLine(b), true },
		impl.Desk,
	}
	for _, line := range lines {
		b := roomy([]byte(line))
		for i, call := range calls {
			first, ok := call(b)
			second, _ := call(b)
			told := string(first)
			scribble(answers{text: first[:cap(first)]})
			untouched(t, line, b, []byte(line))
			third, again := call(b)
			if string(second) != told || string(third) != told || ok != again {
				t.Fatalf("%d of %q: %q, then %q and %q", i, line, told, second, third)
			}
			for _, other := range lines {
				call([]byte(other))
				if after, _ := call(b); string(after) != told {
					t.Fatalf("%d of %q, after %q: %q, not %q", i, line, other, after, told)
				}
			}
			untouched(t, line, b, []byte(line))
			// The text is the caller's own, and what was answered of it stays.
			for k := range b {
				b[k] = 'x'
			}
			if string(second) != told || string(third) != told {
				t.Fatalf("%d of %q: %q changes with the line", i, line, told)
			}
			copy(b, line)
		}
	}
}

func TestDeskMemoryOfManyLines(t *testing.T) {
	for _, text := range []string{"det [3]\n\nfloat 0.5", "rank [1 2;3 4]\nfoo\nadd [1] [2]\n", "\n\n\n", strings.Repeat("inv 3 [2]\n", 200), strings.Repeat("\n", impl.MaxDesk+1), "rank [1]\n" + filled("", impl.MaxText+1)} {
		b := roomy([]byte(text))
		first, ok := impl.Desk(b)
		second, _ := impl.Desk(b)
		told := string(first)
		scribble(answers{text: first[:cap(first)]})
		third, again := impl.Desk(b)
		untouched(t, "Desk", b, []byte(text))
		if string(second) != told || string(third) != told || ok != again {
			t.Fatalf("Desk of %q: %q, then %q and %q", text, told, second, third)
		}
	}
}

// What lies behind a text's length would make another one of it.
func TestDeskBehindTheLength(t *testing.T) {
	for _, whole := range []string{"  add [1 2;3 4] [5 6;7 8]] x", "exp 120 [1]\u0661", "float 1.5e10\xff", "det [\u0661\u0662]\u3000[1]", "rank [3]\n\ndet [4]\nfoo\nfloat 1.5\n\n"} {
		all := []byte(whole)
		for end := range len(all) + 1 {
			if got, want := string(impl.DeskLine(all[:end])), wantLine(slices.Clone(all[:end])); got != want {
				t.Fatalf("DeskLine of %q: %q, not %q", all[:end], got, want)
			}
			want, told := wantDesk(whole[:end])
			got, ok := impl.Desk(all[:end])
			sameText(t, fmt.Sprintf("Desk of %q", all[:end]), got, ok, want, told)
		}
		if string(all) != whole {
			t.Fatal(string(all))
		}
	}
}
