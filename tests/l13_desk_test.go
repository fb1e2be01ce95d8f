package tests

import (
	"fmt"
	"math/rand"
	"regexp"
	"slices"
	"strconv"
	"strings"
	"testing"

	"loop.example/g00382/impl"
)

// nameForm is a word of the desk, with the blanks ahead of it.
var nameForm = regexp.MustCompile(`^ *[^ \[]*`)

// bitsForm is a number of the desk, with the blanks ahead of it.
var bitsForm = regexp.MustCompile(`^ *[0-9]{1,3}$`)

func oneWords() []string    { return []string{"det", "norm", "trace", "rank", "turn", "adj", "poly"} }
func numberWords() []string { return []string{"exp", "root", "inv"} }
func twoWords() []string    { return []string{"add", "sub", "mul"} }

func matWords() []string { return slices.Concat(oneWords(), numberWords(), twoWords()) }

func wrongLine(code int, place int) string { return fmt.Sprint("? ", code, " ", place) }

// wantLine is a line's answer, by the document's words, with what the earlier chapters answer.
func wantLine(line []byte) string {
	if len(line) > impl.MaxText {
		return ""
	}
	text := wantPlain(line)
	name := nameForm.FindString(text)
	word, rest := strings.TrimLeft(name, " "), text[len(name):]
	switch {
	case word == "float":
		f, flags, ok := impl.FlRead([]byte(strings.Trim(rest, " ")), impl.RdEven)
		if !ok {
			return wrongLine(impl.RdNum, len(name))
		}
		return fmt.Sprintf("%s %d", impl.FlText(f), flags)
	case slices.Contains(oneWords(), word):
		return wantOfMats(word, 0, text, len(name), 1)
	case slices.Contains(numberWords(), word):
		number := nameForm.FindString(rest)
		if !bitsForm.MatchString(number) {
			return wrongLine(impl.RdNum, len(name))
		}
		bits, _ := strconv.Atoi(strings.TrimLeft(number, " "))
		return wantOfMats(word, bits, text, len(name)+len(number), 1)
	case slices.Contains(twoWords(), word):
		return wantOfMats(word, 0, text, len(name), 2)
	}
	return wrongLine(impl.RdForm, 0)
}

// wantOfMats reads so many matrices from a place on: each is a text of its own, up to the first bracket that shuts.
func wantOfMats(word string, bits int, text string, at int, many int) string {
	var mats []impl.Mat
	for range many {
		piece := text[at:]
		if shut := strings.Index(piece, "]"); shut >= 0 {
			piece = piece[:shut+1]
		}
		got := wantPlainReading(piece)
		if got.code != impl.RdWell {
			return wrongLine(got.code, at+got.place)
		}
		mats = append(mats, got.m)
		at += len(piece)
	}
	if behind := strings.TrimLeft(text[at:], " "); behind != "" {
		return wrongLine(impl.RdForm, len(text)-len(behind))
	}
	answer, ok := wantOf(word, bits, mats)
	if !ok {
		return "none"
	}
	return answer
}

func wantOf(word string, bits int, mats []impl.Mat) (string, bool) {
	a := mats[0]
	switch word {
	case "det":
		return writtenDy(impl.MatDet(a))
	case "norm":
		return writtenDy(impl.MatNorm(a))
	case "trace":
		return writtenDy(impl.MatTrace(a))
	case "rank":
		return strconv.Itoa(impl.MatRank(a)), true
	case "turn":
		return writtenMat(impl.MatTurn(a))
	case "adj":
		return writtenMat(impl.MatAdj(a))
	case "poly":
		list, ok := impl.MatPoly(a)
		text, told := wantListText(list)
		return text, ok && told
	case "exp":
		return writtenNear(impl.ExpMat(a, -bits))
	case "root":
		return writtenNear(impl.RootMat(a, -bits, 10))
	case "inv":
		return writtenNear(impl.Inverse(a, -bits))
	case "add":
		return writtenMat(impl.MatAdd(a, mats[1]))
	case "sub":
		return writtenMat(impl.MatSub(a, mats[1]))
	}
	return writtenMat(impl.MatMul(a, mats[1]))
}

func writtenDy(d impl.Dy, ok bool) (string, bool) {
	if !ok || !isWritten(d) {
		return "", false
	}
	return wantDyText(d), true
}

func writtenMat(m impl.Mat, ok bool) (string, bool) {
	text, told := wantMatText(m)
	return text, ok && told
}

func writtenNear(m impl.Mat, far impl.Dy, ok bool) (string, bool) {
	text, told := wantMatText(m)
	distance, near := writtenDy(far, ok)
	return text + " by " + distance, told && near
}

// wantDesk parts a text by its bytes 10.
func wantDesk(text string) (string, bool) {
	if len(text) > impl.MaxDesk {
		return "", false
	}
	lines := strings.Split(text, "\n")
	if last := len(lines) - 1; lines[last] == "" {
		lines = lines[:last]
	}
	var answers strings.Builder
	for _, line := range lines {
		if len(line) > impl.MaxText {
			return "", false
		}
		answers.WriteString(wantLine([]byte(line)) + "\n")
	}
	return answers.String(), true
}

func lineIs(t *testing.T, line string, want string) {
	t.Helper()
	if got := string(impl.DeskLine([]byte(line))); got != want {
		t.Fatalf("DeskLine of %q: %q, not %q", line, got, want)
	}
}

func sameLine(t *testing.T, line string) string {
	t.Helper()
	want := wantLine([]byte(line))
	lineIs(t, line, want)
	return want
}

func sameDesk(t *testing.T, text string) string {
	t.Helper()
	want, told := wantDesk(text)
	got, ok := impl.Desk([]byte(text))
	sameText(t, fmt.Sprintf("Desk of %q", text), got, ok, want, told)
	return want
}

func TestDeskConstants(t *testing.T) {
	if impl.MaxDesk != 2000 {
		t.Fatal(impl.MaxDesk)
	}
}

const sixteen = "[1 2 3 4;5 6 7 8;9 10 11 12;13 14 15 16]"

// lineRows has lines, and what they are answered.
func lineRows() [][2]string {
	return [][2]string{
		{"det [1 2; 3 4]", "-2"}, {"det[1 2;3 4]", "-2"}, {"  det   [ 1 2 ;3 4 ]  ", "-2"}, {"det [0.5]", "0.5"}, {"det [-0]", "0"}, {"det [2 0 0;0 3 0;0 0 4]", "24"}, {"det [1 2;2 4]", "0"}, {"det [0.5 0 0 0;0 0.5 0 0;0 0 0.5 0;0 0 0 -0.5]", "-0.0625"}, {"det [0 1;1 0]", "-1"},
		{"norm [1 -2;-3 4]", "6"}, {"norm [-1.5]", "1.5"}, {"norm [1 9;2 -9]", "18"}, {"norm [0 0 0;0 0 0;0 0 0]", "0"}, {"norm " + sixteen, "40"},
		{"trace [1 2;3 4]", "5"}, {"trace [-7]", "-7"}, {"trace [0.5 9;9 -0.25]", "0.25"}, {"trace [1 2 3;4 5 6;7 8 9]", "15"}, {"trace " + sixteen, "34"},
		{"rank [0]", "0"}, {"rank [5]", "1"}, {"rank [1 2;2 4]", "1"}, {"rank [1 2;3 4]", "2"}, {"rank [1 2 3;4 5 6;7 8 9]", "2"}, {"rank [0 0 1;0 1 0;1 0 0]", "3"}, {"rank " + sixteen, "2"}, {"rank [1 0 0 0;0 1 0 0;0 0 1 0;0 0 0 1]", "4"}, {"rank [1 1 1;1 1 1;1 1 1]", "1"},
		{"turn [1 2;3 4]", "[1 3; 2 4]"}, {"turn [-2.5]", "[-2.5]"}, {"turn [1 2 3;4 5 6;7 8 9]", "[1 4 7; 2 5 8; 3 6 9]"}, {"turn " + sixteen, "[1 5 9 13; 2 6 10 14; 3 7 11 15; 4 8 12 16]"},
		{"adj [1 2;3 4]", "[4 -2; -3 1]"}, {"adj [7]", "[1]"}, {"adj [0]", "[1]"}, {"adj [2 0 0;0 3 0;0 0 4]", "[12 0 0; 0 8 0; 0 0 6]"}, {"adj [1 0 0 0;0 1 0 0;0 0 1 0;0 0 0 2]", "[2 0 0 0; 0 2 0 0; 0 0 2 0; 0 0 0 1]"},
		{"poly [1 2;3 4]", "-2 -5 1"}, {"poly [3]", "-3 1"}, {"poly [0 0;0 0]", "0 0 1"}, {"poly [2 0 0;0 3 0;0 0 4]", "-24 26 -9 1"}, {"poly [0 0 0 0;0 0 0 0;0 0 0 0;0 0 0 0]", "0 0 0 0 1"}, {"poly [0.5 0 0 0;0 0 0 0;0 0 0 0;0 0 0 0]", "0 0 0 -0.5 1"},
		{"exp 8 [0]", "[1] by 0.000244140625"}, {"exp 08 [0]", "[1] by 0.000244140625"}, {"exp 008[0]", "[1] by 0.000244140625"}, {"exp 2 [0 -1;1 0]", "[0.5 -0.75; 0.75 0.5] by 0.140625"}, {"exp 2[0 -1;1 0]", "[0.5 -0.75; 0.75 0.5] by 0.140625"},
		{"root 4 [4]", "[2] by 0"}, {"root 0 [5 4;4 5]", "[2 1; 1 2] by 0"}, {"root 8 [2]", "[1.4140625] by 0.00042724609375"}, {"root 120 [0.25]", "[0.5] by 0"}, {"root 3 [1 0 0;0 4 0;0 0 9]", "[1 0 0; 0 2 0; 0 0 3] by 0"}, {"root 000 [1 0 0 0;0 4 0 0;0 0 9 0;0 0 0 16]", "[1 0 0 0; 0 2 0 0; 0 0 3 0; 0 0 0 4] by 0"},
		{"inv 3 [2]", "[0.5] by 0"}, {"inv 0 [1 2;3 4]", "[-2 1; 2 0] by 3"}, {"inv 1 [1 2;3 4]", "[-2 1; 1.5 -0.5] by 0"}, {"inv 0 [3]", "[0] by 1"}, {"inv 2 [3]", "[0.25] by 0.25"}, {"inv 00 [0 0 2;0 1 0;1 0 0]", "[0 0 1; 0 1 0; 0 0 0] by 1"}, {"inv 200 [2]", "[0.5] by 0"}, {"inv 1 [1 0 0 0;0 2 0 0;0 0 -1 0;0 0 0 -2]", "[1 0 0 0; 0 0.5 0 0; 0 0 -1 0; 0 0 0 -0.5] by 0"},
		{"add [1] [2]", "[3]"}, {"add[1][2]", "[3]"}, {" add  [ 1 ]  [ 2 ] ", "[3]"}, {"add [1 2;3 4] [0.5 0;0 -4]", "[1.5 2; 3 0]"}, {"add [1 2 3;4 5 6;7 8 9][9 8 7;6 5 4;3 2 1]", "[10 10 10; 10 10 10; 10 10 10]"},
		{"sub [1] [2]", "[-1]"}, {"sub [1 2;3 4] [0.5 0;0 -4]", "[0.5 2; 3 8]"}, {"sub " + sixteen + " " + sixteen, "[0 0 0 0; 0 0 0 0; 0 0 0 0; 0 0 0 0]"},
		{"mul [2] [0.5]", "[1]"}, {"mul [1 2;3 4] [0 1;1 0]", "[2 1; 4 3]"}, {"mul [0 1;1 0] [1 2;3 4]", "[3 4; 1 2]"}, {"mul [1 1 1;1 1 1;1 1 1] [1 2 3;4 5 6;7 8 9]", "[12 15 18; 12 15 18; 12 15 18]"},
		{"\u3000det\u2009[\u0661\u00a0\u06f2\t;\uff13 \u096a]", "-2"}, {"exp\t\uff18\u3000[\u2212\u0660]", "[1] by 0.000244140625"}, {"inv \u0662\u06f0\uff10 [\u0662]", "[0.5] by 0"}, {"mul\u3000[\uff0d2]\u2009[\u22120.5]", "[1]"},
	}
}

// floatRows has floats, and what the desk answers.
func floatRows() [][2]string {
	return [][2]string{
		{"float 1e23", "1e23 1"}, {"float 0.5", "0.5 0"}, {"float 0", "0 0"}, {"float -0", "-0 0"}, {"float +0.00e7", "0 0"}, {"float -0e-800", "-0 0"}, {"float 0.1", "0.1 1"}, {"float -0.1", "-0.1 1"}, {"float 12", "12 0"}, {"float +0012.50", "12.5 0"},
		{"float 9007199254740993", "9007199254740992 1"}, {"float 1e20", "100000000000000000000 0"}, {"float 1e21", "1e21 0"}, {"float 100000000000000000000000", "1e23 1"}, {"float 0.000001", "0.000001 1"}, {"float 1e-7", "1e-7 1"},
		{"float 1e400", "inf 3"}, {"float -1e400", "-inf 3"}, {"float 1e-400", "0 5"}, {"float -1e-400", "-0 5"}, {"float 5e-324", "5e-324 5"}, {"float 2e-324", "0 5"}, {"float 2.2250738585072014e-308", "2.2250738585072014e-308 1"}, {"float 2.225073858507201e-308", "2.225073858507201e-308 5"}, {"float 1.7976931348623157e308", "1.7976931348623157e308 1"}, {"float 1.7976931348623159e308", "inf 3"},
		{"float nan", "nan 0"}, {"float inf", "inf 0"}, {"float +inf", "inf 0"}, {"float -inf", "-inf 0"}, {"float \u2212inf", "-inf 0"}, {"float \uff0binf", "inf 0"},
		{"  float   0.5  ", "0.5 0"}, {"\tfloat\u2009\u0660.\u0665\u3000", "0.5 0"}, {"float\u00a0\uff0d\uff11\uff10", "-10 0"}, {"float nan ", "nan 0"}, {"float\tinf\t", "inf 0"},
	}
}

func TestDeskLineLiterals(t *testing.T) {
	for _, row := range slices.Concat(lineRows(), floatRows()) {
		lineIs(t, row[0], row[1])
		sameLine(t, row[0])
		got, ok := impl.Desk([]byte(row[0]))
		sameText(t, "Desk of "+row[0], got, ok, row[1]+"\n", true)
	}
}

// All lines of the rows, as long as a text may be: each is answered as it is alone.
func TestDeskOfLiterals(t *testing.T) {
	var text, want string
	desks := 0
	for _, row := range slices.Concat(lineRows(), floatRows()) {
		if len(text)+len(row[0])+1 > impl.MaxDesk {
			got, ok := impl.Desk([]byte(text))
			sameText(t, "Desk", got, ok, want, true)
			text, want = "", ""
			desks++
		}
		text += row[0] + "\n"
		want += row[1] + "\n"
	}
	got, ok := impl.Desk([]byte(text))
	sameText(t, "Desk", got, ok, want, true)
	if desks == 0 {
		t.Fatal("one text holds all")
	}
}

// deskMat is a matrix's text, with small numbers in most cases, blanks here and there, digits of some script.
func deskMat(source *rand.Rand, n int) string {
	if source.Intn(4) == 0 {
		return drawnText(source, n)
	}
	text := drawnBlanks(source, 0) + "["
	for i := range n * n {
		switch {
		case i > 0 && i%n == 0:
			text += drawnBlanks(source, 0) + ";" + drawnBlanks(source, 0)
		case i > 0:
			text += drawnBlanks(source, 1)
		}
		text += []string{"", "", "-", "+", "\u2212"}[source.Intn(5)] + strconv.Itoa(source.Intn(10)) + []string{"", "", ".5", ".25"}[source.Intn(4)]
	}
	return inScript(text+drawnBlanks(source, 0)+"]", []int{48, 48, 1632, 1776, 2406, 65296}[source.Intn(6)]) + drawnBlanks(source, 0)
}

// deskBits is a number with 1 to 3 digits, some of them noughts.
func deskBits(source *rand.Rand) string {
	number := strconv.Itoa(source.Intn([]int{10, 40, 100, 130, 1000}[source.Intn(5)]))
	number = strings.Repeat("0", source.Intn(4-len(number))) + number
	return inScript(number, []int{48, 1632, 1776, 2406, 65296}[source.Intn(5)])
}

// deskLine is what a word wants, of one N.
func deskLine(source *rand.Rand, word string, n int) string {
	line := drawnBlanks(source, 0) + word
	if slices.Contains(numberWords(), word) {
		line += drawnBlanks(source, 1) + deskBits(source)
	}
	line += deskMat(source, n)
	if slices.Contains(twoWords(), word) {
		line += deskMat(source, n)
	}
	return line
}

// Each word with matrices of every N.
func TestDeskLineDrawn(t *testing.T) {
	source := rand.New(rand.NewSource(131))
	for _, word := range matWords() {
		for n := 1; n <= impl.MaxN; n++ {
			answered := 0
			for range 250 {
				answer := sameLine(t, deskLine(source, word, n))
				if answer != "none" && !strings.HasPrefix(answer, "?") {
					answered++
				}
			}
			if answered < 40 || word != "root" && answered < 100 {
				t.Fatal(word, n, answered)
			}
		}
	}
}

// A number is the opposite of low, with as many digits as it may have.
func TestDeskLineNumbers(t *testing.T) {
	mats := []string{"[4]", "[2.25 0.5;-0.5 1]"}
	for bits := range 1000 {
		for digits := len(strconv.Itoa(bits)); digits <= 3; digits++ {
			number := fmt.Sprintf("%0*d", digits, bits)
			for i, word := range numberWords() {
				script := []int{48, 1632, 1776, 2406, 65296}[(bits+i)%5]
				sameLine(t, word+" "+inScript(number, script)+" "+mats[bits%2])
			}
		}
		if bits >= 2 && bits <= impl.MaxFine {
			lineIs(t, fmt.Sprint("inv ", bits, " [4]"), "[0.25] by 0")
		}
	}
}

func TestDeskLineFloats(t *testing.T) {
	read := 0
	for i, text := range slices.Concat(numberTexts(), noNumbers()) {
		line := []string{"float ", "float  ", " float\t", "\u3000float\u2009"}[i%4] + text + []string{"", " ", "\u00a0"}[i%3]
		if !strings.HasPrefix(sameLine(t, line), "?") {
			read++
		}
	}
	if read < 2500 {
		t.Fatal(read)
	}
	source := rand.New(rand.NewSource(132))
	for range 2000 {
		f := anyFl(source)
		text := string(impl.FlText(f))
		// What is written is read as the same: so it is written as it was.
		if answer := string(impl.DeskLine([]byte("float " + text))); answer[:len(answer)-2] != text {
			t.Fatal(text, answer)
		}
		sameLine(t, "float "+drawnBlanks(source, 0)+drawnWord(source)+drawnBlanks(source, 0))
	}
}

// Drawn lines, right and wrong ones: a text is answered line by line (promise 15).
func TestDeskDrawn(t *testing.T) {
	source := rand.New(rand.NewSource(133))
	wrongs := []string{"", " ", "foo", "det", "det [1 2]", "exp x [1]", "add [1]", "add [1] [1 0;0 1]", "inv 3 [0]", "float", "float x", "det [1] 2", "\xff", "Det [1]", "[1]"}
	for range 400 {
		var lines []string
		for room := impl.MaxDesk; ; {
			line := wrongs[source.Intn(len(wrongs))]
			switch source.Intn(4) {
			case 0:
				line = "float " + drawnWord(source)
			case 1, 2:
				line = deskLine(source, matWords()[source.Intn(len(matWords()))], 1+source.Intn(impl.MaxN))
			}
			room -= len(line) + 1
			if room < 0 || source.Intn(30) == 0 {
				break
			}
			if len(line) <= impl.MaxText {
				lines = append(lines, line)
			}
		}
		text := strings.Join(lines, "\n")
		var want string
		for _, line := range lines {
			want += string(impl.DeskLine([]byte(line))) + "\n"
		}
		if len(lines) > 0 && (lines[len(lines)-1] == "" || source.Intn(2) == 0) {
			text += "\n"
		}
		if got := sameDesk(t, text); got != want {
			t.Fatalf("Desk of %q: %q, not %q", text, got, want)
		}
	}
}

// The order of two lines changes nothing but the order of their answers.
func TestDeskLinesOneByOne(t *testing.T) {
	rows := slices.Concat(lineRows(), floatRows())
	for i, first := range rows {
		second := rows[(7*i+3)%len(rows)]
		got, ok := impl.Desk([]byte(first[0] + "\n" + second[0]))
		sameText(t, "Desk", got, ok, first[1]+"\n"+second[1]+"\n", true)
		got, ok = impl.Desk([]byte(second[0] + "\n" + first[0] + "\n"))
		sameText(t, "Desk", got, ok, second[1]+"\n"+first[1]+"\n", true)
		got, ok = impl.Desk([]byte("\n" + first[0] + "\n\n" + first[0]))
		sameText(t, "Desk", got, ok, "? 2 0\n"+first[1]+"\n? 2 0\n"+first[1]+"\n", true)
	}
}
