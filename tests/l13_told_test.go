package tests

import (
	"fmt"
	"slices"
	"strings"
	"testing"

	"loop.example/g00382/impl"
)

// filled is a text with so many bytes, the last ones a blank each.
func filled(text string, bytes int) string {
	return text + strings.Repeat(" ", bytes-len(text))
}

// wideLines have lines that are answered at any length: filled with blanks, and with what is no blank.
func wideLines(bytes int) [][2]string {
	word := strings.Repeat("x", bytes)
	blanks := strings.Repeat("\u3000", bytes/3) + strings.Repeat(" ", bytes%3)
	ahead := strings.Repeat("\u3000", (bytes-7)/3) + strings.Repeat("\t", (bytes-7)%3)
	number := strings.Repeat("0", bytes-8)
	return [][2]string{
		{filled("det [5]", bytes), "5"}, {filled("float 0.5", bytes), "0.5 0"}, {filled("", bytes), "? 2 0"}, {word, "? 2 0"}, {blanks, "? 2 0"}, {ahead + "det [5]", "5"},
		{filled("exp", bytes), "? 3 3"}, {filled("add [1]", bytes), wrongLine(impl.RdForm, bytes)}, {"norm [" + number + "7]", "7"}, {"float 1" + strings.Repeat("0", bytes-7), "inf 3"}, {"float " + number + "12", "12 0"},
		{"det [" + strings.Repeat("\xff", bytes-6) + "]", "? 3 5"}, {"float " + strings.Repeat("\xff", bytes-6), "? 3 5"}, {strings.Repeat("\xff", bytes), "? 2 0"}, {"rank [3]" + strings.Repeat("\xe2", bytes-8), "? 2 8"}, {"exp " + strings.Repeat("\u0661", (bytes-4)/2) + filled("", bytes%2), "? 3 3"},
		{"root" + filled("", bytes-8) + "1[4]", "[2] by 0"}, {"mul [2]" + filled("", bytes-10) + "[3]", "[6]"},
	}
}

// surrounding is what a text has around a line, and how that is answered.
type surrounding struct{ ahead, first, behind, last string }

func surroundings() []surrounding {
	return []surrounding{
		{"", "", "", ""}, {"", "", "\n", ""}, {"rank [1]\n", "1\n", "", ""}, {"", "", "\nrank [1]", "1\n"},
		{"\n\n", "? 2 0\n? 2 0\n", "\n\n", "? 2 0\n"}, {"rank [1]\ndet [2]\n", "1\n2\n", "\nrank [0]\n", "0\n"},
	}
}

// A line of MaxText bytes is answered, one of a byte more is not: alone, and as any line of a text.
func TestDeskLineLength(t *testing.T) {
	for _, row := range wideLines(impl.MaxText) {
		if len(row[0]) != impl.MaxText {
			t.Fatal(row, len(row[0]))
		}
		lineIs(t, row[0], row[1])
		sameLine(t, row[0])
		for _, around := range surroundings() {
			got, ok := impl.Desk([]byte(around.ahead + row[0] + around.behind))
			sameText(t, fmt.Sprintf("Desk of %q", around), got, ok, around.first+row[1]+"\n"+around.last, true)
		}
	}
	for bytes := impl.MaxText + 1; bytes < impl.MaxText+4; bytes++ {
		for _, row := range wideLines(bytes) {
			lineIs(t, row[0], "")
			for _, around := range append(surroundings(), surrounding{ahead: row[0] + "\n"}) {
				got, ok := impl.Desk([]byte(around.ahead + row[0] + around.behind))
				sameText(t, "Desk with a line that is too long", got, ok, "", false)
			}
		}
	}
	for _, line := range []string{strings.Repeat("x", 10000), strings.Repeat("det [1]", 1000), strings.Repeat("\n", 401), filled("det [5]", 400) + "\n", filled("det [5]", 399) + "\n\n"} {
		lineIs(t, line, "")
	}
}

// A text of MaxDesk bytes is answered, one of a byte more is not, whatever its lines are.
func TestDeskLength(t *testing.T) {
	wide := filled("rank [7]", impl.MaxText) + "\n"
	texts := []string{strings.Repeat("\n", impl.MaxDesk), strings.Repeat("det [-8]\n", impl.MaxDesk/9) + "\n\n", strings.Repeat(wide, 4) + filled("det [5]", impl.MaxDesk-4*len(wide)), strings.Repeat(wide, 4) + filled("det [5]", impl.MaxDesk-4*len(wide)-1) + "\n", strings.Repeat("x\n", impl.MaxDesk/2), strings.Repeat("\xff\n", impl.MaxDesk/2), strings.Repeat("\u3000\n", impl.MaxDesk/4)}
	for _, text := range texts {
		if len(text) != impl.MaxDesk {
			t.Fatal(len(text))
		}
		if want := sameDesk(t, text); strings.Count(want, "\n") != len(strings.Split(strings.TrimSuffix(text, "\n"), "\n")) {
			t.Fatal(want)
		}
		for _, more := range []string{"\n", " ", "x", "\x00", "\xff", "\n\n", strings.Repeat("\n", 5000)} {
			for _, long := range []string{text + more, more + text, text[:1000] + more + text[1000:]} {
				got, ok := impl.Desk([]byte(long))
				sameText(t, "Desk of a text that is too long", got, ok, "", false)
			}
		}
		sameDesk(t, text[1:])
		sameDesk(t, text[:len(text)-1])
	}
	got, ok := impl.Desk([]byte(strings.Repeat("\n", impl.MaxDesk)))
	sameText(t, "Desk of bytes 10", got, ok, strings.Repeat("? 2 0\n", impl.MaxDesk), true)
}

// What is behind the last byte 10 is a line just if it has bytes.
func TestDeskEnds(t *testing.T) {
	for _, row := range [][2]string{
		{"", ""}, {"\n", "? 2 0\n"}, {"\n\n", "? 2 0\n? 2 0\n"}, {"\n\n\n", "? 2 0\n? 2 0\n? 2 0\n"}, {" ", "? 2 0\n"}, {"\n ", "? 2 0\n? 2 0\n"}, {" \n", "? 2 0\n"},
		{"det [3]", "3\n"}, {"det [3]\n", "3\n"}, {"det [3]\n\n", "3\n? 2 0\n"}, {"\ndet [3]", "? 2 0\n3\n"}, {"\ndet [3]\n", "? 2 0\n3\n"}, {"det [3]\n ", "3\n? 2 0\n"}, {"det [3]\n\x00", "3\n? 2 0\n"},
		{"det [3]\ndet [4]", "3\n4\n"}, {"det [3]\ndet [4]\n", "3\n4\n"}, {"det [3]\n\ndet [4]", "3\n? 2 0\n4\n"}, {"det [3]\n\n\ndet [4]\n\n", "3\n? 2 0\n? 2 0\n4\n? 2 0\n"},
		// No other byte ends a line, and none that ends one belongs to it.
		{"det [3]\r\n", "? 2 7\n"}, {"det [3]\r\ndet [4]", "? 2 7\n4\n"}, {"det [3]\rdet [4]", "? 2 7\n"}, {"det [3]\vdet [4]", "? 2 7\n"}, {"det [3]\u2028det [4]", "? 2 7\n"}, {"det [3]\u0085det [4]", "? 2 7\n"}, {"det [3]\x00det [4]", "? 2 7\n"}, {"det\n[3]", "? 2 3\n? 2 0\n"}, {"add [1]\n[2]", "? 2 7\n? 2 0\n"}, {"exp 1\n[2]", "? 2 5\n? 2 0\n"}, {"float\n1", "? 3 5\n? 2 0\n"},
		// A rune that is cut by a byte 10 is none.
		{"float \xe2\n\x88\x921", "? 3 5\n? 2 0\n"}, {"det [1\xe2\n\x88\x921]", "? 3 5\n? 2 0\n"}, {"\xd9\n\xa1", "? 2 0\n? 2 0\n"},
	} {
		got, ok := impl.Desk([]byte(row[0]))
		sameText(t, fmt.Sprintf("Desk of %q", row[0]), got, ok, row[1], true)
		sameDesk(t, row[0])
	}
	for _, empty := range [][]byte{nil, {}, []byte("det [1]")[:0]} {
		got, ok := impl.Desk(empty)
		sameText(t, "Desk of nothing", got, ok, "", true)
		if line := string(impl.DeskLine(empty)); line != "? 2 0" {
			t.Fatal(line)
		}
	}
}

// Every text of few pieces, bytes 10 among them.
func TestDeskEveryText(t *testing.T) {
	pieces := []string{"\n", "det [3]", "float 1", " ", "\r", "x"}
	texts := []string{""}
	for first := 0; first < len(texts); first++ {
		sameDesk(t, texts[first])
		if len(texts) < 9331 {
			for _, piece := range pieces {
				texts = append(texts, texts[first]+piece)
			}
		}
	}
	if len(texts) != 9331 {
		t.Fatal(len(texts))
	}
}

// Numbers of 1 to 3 digits are taken, and nothing else is: of noughts, too, and where it would be no other number.
func TestDeskLineDigits(t *testing.T) {
	for _, word := range numberWords() {
		for _, number := range []string{"0", "9", "00", "09", "10", "99", "000", "001", "010", "100", "999", "\u0660", "\u06f9\uff19", "\u0966\u0660\uff11"} {
			for _, line := range []string{word + " " + number + " [4]", word + " " + number + "[4]", "  " + word + "\u3000 " + number + "\u2009 [4] "} {
				if answer := sameLine(t, line); strings.HasPrefix(answer, "?") {
					t.Fatal(line, answer)
				}
			}
		}
		behind := len(word)
		for _, number := range []string{
			"", "0000", "0001", "1000", "9999", "00000", "4294967297", "18446744073709551617", strings.Repeat("0", 100), "\u0660\u0660\u0660\u0660",
			"-1", "+1", "-0", "+0", "\u22121", "\uff0b1", "-", "+", "--1", "1-", "1+", "1.0", "1.", ".1", "0.", "1e0", "1e1", "1E1", "e1", "0x1", "1_0", "1,0", "1'0", "x", "x1", "1x", "1x1", "12a", "a12", "nan", "inf", "]", "1]", "]1", "1;", ";", ";1", "1;1", "1\n", "1\r", "\n1", "1\x00", "\xff", "1\xff", "\u0661\xd9", "\u00b2", "\u2460", "\u0be7", "\u4e00", "\ufffd",
		} {
			for _, matrix := range []string{" [4]", "[4]", "", " ", " [", " [x]", " [1 2]", " [4] x", "\u3000[4]"} {
				if number == "" {
					lineIs(t, word+matrix, wrongLine(impl.RdNum, behind))
				}
				lineIs(t, word+" "+number+matrix, wrongLine(impl.RdNum, behind))
				lineIs(t, "\u3000\t"+word+"\u2009\u2009"+number+matrix, wrongLine(impl.RdNum, behind+2))
				sameLine(t, word+" "+number+matrix)
			}
		}
	}
}

// power is the text of a power of two, with all its digits.
func power(k int) string { return wantDyText(dyInt(1, k)) }

// What is too long or too great for a text has none, and what is just not has one.
func TestDeskLineNone(t *testing.T) {
	half, least, below := power(500), power(-50), power(-51)
	for _, row := range [][2]string{
		{"mul [" + half + "] [" + half + "]", "[" + power(1000) + "]"}, {"det [" + half + " 0;0 " + half + "]", power(1000)}, {"adj [" + half + " 0 0;0 " + half + " 0;0 0 0]", "[0 0 0; 0 0 0; 0 0 " + power(1000) + "]"},
		{"mul [" + least + "] [" + least + "]", "[" + power(-100) + "]"}, {"det [" + least + " 0;0 " + least + "]", power(-100)}, {"poly [" + least + " 0;0 " + least + "]", power(-100) + " -" + power(-49) + " 1"}, {"turn [" + power(-100) + "]", "[" + power(-100) + "]"}, {"trace [-" + power(-100) + "]", "-" + power(-100)},
		{"inv 100 [" + power(100) + "]", "[" + power(-100) + "] by 0"}, {"norm [1e308]", wantDyText(dyInt(0x11ccf385ebc8a0, 971))},
		{"mul [1e300] [1e300]", "none"}, {"det [1e200 0;0 1e200]", "none"}, {"adj [1e200 0 0;0 1e200 0;0 0 0]", "none"}, {"poly [1e200 0;0 1e200]", "none"}, {"poly [1e200 0;0 0]", "0 -" + wantDyText(nearestFloat(dy(ten(200), 0))) + " 1"},
		{"mul [" + least + "] [" + below + "]", "none"}, {"mul [" + least + " 0;0 1] [" + below + " 0;0 1]", "none"}, {"det [" + least + " 0;0 " + below + "]", "none"}, {"poly [" + least + " 0;0 " + below + "]", "none"}, {"adj [" + least + " 0 0;0 " + below + " 0;0 0 0]", "none"}, {"turn [" + power(-101) + "]", "none"}, {"trace [" + power(-101) + "]", "none"}, {"norm [1e-50]", "none"}, {"add [1e-50] [0]", "none"}, {"sub [0] [1e-50]", "none"}, {"add [1e-50] [1]", "none"}, {"sub [1e-50] [1e-50]", "[0]"}, {"rank [1e-300]", "1"}, {"adj [1e-300]", "[1]"}, {"poly [1e-300]", "none"}, {"det [1e-300 0;0 0]", "0"}, {"turn [1 2;3 1e-50]", "none"},
		{"inv 101 [" + power(101) + "]", "none"}, {"inv 200 [" + power(-200) + "]", "[" + power(200) + "] by 0"}, {"inv 0 [1e300]", "[0] by 1"},
		// An inverse may have a text where how far it is off has none, and the other way round.
		{"inv 60 [" + power(-60) + "]", "[" + power(60) + "] by 0"}, {"inv 99 [3]", wantNearThird(99)}, {"inv 100 [3]", wantNearThird(100)}, {"inv 101 [3]", "none"}, {"inv 60 [1.0000000000000002]", "none"},
		{"exp 95 [0]", "[1] by " + power(-99)}, {"exp 96 [0]", "[1] by " + power(-100)}, {"exp 97 [0]", "none"}, {"exp 120 [0]", "none"}, {"exp 121 [0]", "none"}, {"root 97 [2]", "none"},
	} {
		lineIs(t, row[0], row[1])
		sameLine(t, row[0])
	}
}

// wantNearThird is the multiple of 2^-bits next to a third: three times that is a unit off, of the bits.
func wantNearThird(bits int) string {
	third := plus(two(bits), 1)
	if bits%2 == 0 {
		third = plus(two(bits), -1)
	}
	third.Quo(third, ratOf(dyInt(3, 0)).Num())
	return "[" + wantDyText(dy(third, -bits)) + "] by " + power(-bits)
}

// Where there is no answer, there is none: no inverse, a norm or a number beyond its limit, unlike N.
func TestDeskLineNoAnswer(t *testing.T) {
	for _, row := range [][2]string{
		{"inv 3 [0]", "none"}, {"inv 3 [1 2;2 4]", "none"}, {"inv 3 [1 2 3;4 5 6;7 8 9]", "none"}, {"inv 3 " + sixteen, "none"}, {"inv 0 [-0 0;0 1]", "none"},
		{"inv 200 [2]", "[0.5] by 0"}, {"inv 201 [2]", "none"}, {"inv 999 [2]", "none"},
		{"root 0 [0]", "none"}, {"root 3 [-1]", "none"}, {"root 3 [0 0;0 4]", "none"}, {"root 120 [4]", "[2] by 0"}, {"root 121 [4]", "none"}, {"root 999 [4]", "none"},
		{"root 3 [64]", "[8] by 0"}, {"root 3 [64.00000000000001]", "none"}, {"root 3 [63 0;1 1]", wantOrNone("root", 3, matInts(2, 0, 63, 0, 1, 1))}, {"root 3 [64 0;1 1]", "none"},
		{"exp 0 [64.00000000000001]", "none"}, {"exp 0 [-64.00000000000001]", "none"}, {"exp 0 [1e308]", "none"}, {"exp 120 [65]", "none"}, {"exp 1 [32 0;32.00000000000001 0]", "none"}, {"exp 120 [1]", "none"}, {"exp 200 [1]", "none"}, {"exp 999 [0]", "none"},
	} {
		lineIs(t, row[0], row[1])
		sameLine(t, row[0])
	}
	for _, line := range []string{"exp 0 [64]", "exp 0 [-64]", "exp 60 [64]", "exp 1 [32 0;32 0]", "exp 1 [32 64;-32 0]", "exp 3 [16 0 0 0;16 0 0 0;16 0 0 0;16 0 0 64]", "root 3 [63 0;1 1]"} {
		if answer := sameLine(t, line); answer == "none" || answer[0] != '[' {
			t.Fatal(line, answer)
		}
	}
	for n := 1; n <= impl.MaxN; n++ {
		for k := 1; k <= impl.MaxN; k++ {
			for _, word := range twoWords() {
				line := word + inPlace(n, 0, "2") + inPlace(k, 0, "3")
				if answer := sameLine(t, line); n != k != (answer == "none") {
					t.Fatal(line, answer)
				}
			}
		}
	}
}

func wantOrNone(word string, bits int, m impl.Mat) string {
	text, ok := wantOf(word, bits, []impl.Mat{m})
	if !ok {
		return "none"
	}
	return text
}

// A root takes ten steps, not nine nor eleven.
func TestDeskLineRootSteps(t *testing.T) {
	for _, row := range []struct {
		text string
		m    impl.Mat
	}{{power(-20), matInts(1, -20, 1)}, {power(-30), matInts(1, -30, 1)}} {
		want, _ := writtenNear(impl.RootMat(row.m, -40, 10))
		lineIs(t, "root 40 ["+row.text+"]", want)
		for _, steps := range []int{8, 9, 11, 12} {
			if other, ok := writtenNear(impl.RootMat(row.m, -40, steps)); !ok || other == want {
				t.Fatal(row.text, steps)
			}
		}
	}
}

// Each rank, determinant and trace of matrices of few small numbers.
func TestDeskLineEverySmallMatrix(t *testing.T) {
	for k := range 5 * 5 * 5 * 5 {
		numbers := []int{k%5 - 2, k/5%5 - 2, k/25%5 - 2, k/125 - 2}
		a, b, c, d := numbers[0], numbers[1], numbers[2], numbers[3]
		text := fmt.Sprintf("[%d %d; %d %d]", a, b, c, d)
		det := a*d - b*c
		rank := 2
		if det == 0 {
			rank = 1
		}
		if slices.Equal(numbers, make([]int, 4)) {
			rank = 0
		}
		size := func(n int) int { return max(n, -n) }
		lineIs(t, "det"+text, fmt.Sprint(det))
		lineIs(t, "rank"+text, fmt.Sprint(rank))
		lineIs(t, "trace"+text, fmt.Sprint(a+d))
		lineIs(t, "norm"+text, fmt.Sprint(max(size(a)+size(c), size(b)+size(d))))
		lineIs(t, "turn"+text, fmt.Sprintf("[%d %d; %d %d]", a, c, b, d))
		lineIs(t, "adj"+text, fmt.Sprintf("[%d %d; %d %d]", d, -b, -c, a))
		lineIs(t, "poly"+text, fmt.Sprint(det, " ", -a-d, " ", 1))
		lineIs(t, "add"+text+"[1 2;3 4]", fmt.Sprintf("[%d %d; %d %d]", a+1, b+2, c+3, d+4))
		lineIs(t, "sub"+text+"[1 2;3 4]", fmt.Sprintf("[%d %d; %d %d]", a-1, b-2, c-3, d-4))
		lineIs(t, "sub[1 2;3 4]"+text, fmt.Sprintf("[%d %d; %d %d]", 1-a, 2-b, 3-c, 4-d))
		lineIs(t, "mul"+text+"[1 2;3 4]", fmt.Sprintf("[%d %d; %d %d]", a+3*b, 2*a+4*b, c+3*d, 2*c+4*d))
		lineIs(t, "mul[1 2;3 4]"+text, fmt.Sprintf("[%d %d; %d %d]", a+2*c, b+2*d, 3*a+4*c, 3*b+4*d))
		if size(det) == 1 {
			lineIs(t, "inv 0"+text, fmt.Sprintf("[%d %d; %d %d] by 0", d*det, -b*det, -c*det, a*det))
		}
	}
}
