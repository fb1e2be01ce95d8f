package tests

import (
	"bytes"
	"math"
	"slices"
	"strings"
	"testing"

	"loop.example/g00382/impl"
)

// mixed has runes of one, two, three and four bytes.
const mixed = "a\u0663\u2212\U0001F600z\u00e9\u0969\uff15\ufffd\U0010ffff\x00\u07ff\u0800\uffff\U00010000"

// texts has ordinary texts, edges and broken ones.
func texts() []string {
	return []string{
		"", "a", "abc 12+3", mixed, mixed + mixed, "\ufffd", "\ufffd\xef\xbf\xbd\xef\xbf", "\xff", "\xffa\xfe",
		"\xd9", "a\xd9", "\xe2\x88", "\xe2", "\xf0\x9f\x98", "\xf0\x9f", "\xf0", "\x80", "\xbf\xbf\xbf", "\xc0\x80", "\xc1\xbf",
		"\xe0\x9f\xbf", "\xed\xa0\x80", "\xed\xbf\xbf", "\xf0\x8f\xbf\xbf", "\xf4\x90\x80\x80", "\xf7\xbf\xbf\xbf", "\xf8\x88\x80\x80\x80",
		"\xe2\x88\xe2\x88\x92", "\u0660\u0669\u06f0\u06f9\u0966\u096f\uff10\uff19", "+\uff0b-\u2212\uff0d", "\t \u00a0\u2009\u3000",
		strings.Repeat("x", impl.MaxText), strings.Repeat("\u0663", impl.MaxText/2), strings.Repeat("\xff", impl.MaxText),
		strings.Repeat("\U0001F600", impl.MaxText/4), strings.Repeat("x", impl.MaxText-1) + "\xd9",
	}
}

// mayBe says which numbers are runes, by the document's words.
func mayBe(r int) bool {
	return 0 <= r && r <= 1114111 && !(55296 <= r && r <= 57343)
}

// wantAt reckons a rune out of its bits, by the document's words.
func wantAt(b []byte, at int) (int, int) {
	if at < 0 || at >= len(b) {
		return 0, 0
	}
	first := int(b[at])
	if first < 128 {
		return first, 1
	}
	kinds := []struct{ low, high, bits, least int }{{192, 223, 5, 128}, {224, 239, 4, 2048}, {240, 247, 3, 65536}}
	for i, k := range kinds {
		width := i + 2
		if first < k.low || first > k.high || at+width > len(b) {
			continue
		}
		r := first % (1 << k.bits)
		for _, other := range b[at+1 : at+width] {
			if other < 128 || other > 191 {
				return impl.RuneBad, 1
			}
			r = r*64 + int(other) - 128
		}
		if r >= k.least && mayBe(r) {
			return r, width
		}
	}
	return impl.RuneBad, 1
}

func wantRunes(b []byte) []int {
	var list []int
	for at := 0; at < len(b); {
		r, width := wantAt(b, at)
		list = append(list, r)
		at += width
	}
	return list
}

func wantClean(b []byte) bool {
	for at := 0; at < len(b); {
		r, width := wantAt(b, at)
		if r == impl.RuneBad && width == 1 {
			return false
		}
		at += width
	}
	return true
}

func sameAt(t *testing.T, b []byte, at int) {
	t.Helper()
	wantRune, wantWidth := wantAt(b, at)
	if r, width := impl.RuneAt(b, at); r != wantRune || width != wantWidth {
		t.Fatalf("RuneAt(% x, %d) is %d, %d, not %d, %d", b, at, r, width, wantRune, wantWidth)
	}
}

func TestRuneConstants(t *testing.T) {
	if impl.MaxText != 400 || impl.RuneBad != 65533 || impl.RuneMost != 1114111 {
		t.Fatal(impl.MaxText, impl.RuneBad, impl.RuneMost)
	}
}

func TestRuneAtLiterals(t *testing.T) {
	rows := []struct {
		text    string
		r, size int
	}{
		{"\x00", 0, 1}, {"a", 97, 1}, {"\x7f", 127, 1}, {"\xc2\x80", 128, 2}, {"\xdf\xbf", 2047, 2}, {"\xd9\xa3", 1635, 2},
		{"\xe0\xa0\x80", 2048, 3}, {"\xe2\x88\x92", 8722, 3}, {"\xed\x9f\xbf", 55295, 3}, {"\xee\x80\x80", 57344, 3},
		{"\xef\xbf\xbd", 65533, 3}, {"\xef\xbf\xbf", 65535, 3}, {"\xf0\x90\x80\x80", 65536, 4}, {"\xf0\x9f\x98\x80", 128512, 4},
		{"\xf4\x8f\xbf\xbf", 1114111, 4}, {"\xf4\x90\x80\x80", 65533, 1}, {"\xed\xa0\x80", 65533, 1}, {"\xed\xbf\xbf", 65533, 1},
		{"\xc1\xbf", 65533, 1}, {"\xc0\x80", 65533, 1}, {"\xe0\x9f\xbf", 65533, 1}, {"\xf0\x8f\xbf\xbf", 65533, 1},
		{"\xbf\x80", 65533, 1}, {"\xf8\x80\x80\x80", 65533, 1}, {"\xf7\xbf\xbf\xbf", 65533, 1}, {"\xff", 65533, 1}, {"\x80", 65533, 1},
		{"\xd9", 65533, 1}, {"\xe2\x88", 65533, 1}, {"\xf0\x9f\x98", 65533, 1}, {"\xd9\x7f", 65533, 1}, {"\xd9\xc0", 65533, 1},
	}
	for _, row := range rows {
		if r, size := impl.RuneAt([]byte(row.text), 0); r != row.r || size != row.size {
			t.Errorf("RuneAt(%x) is %d, %d, not %d, %d", row.text, r, size, row.r, row.size)
		}
	}
}

func TestRuneAtPlaces(t *testing.T) {
	for _, text := range texts() {
		b := []byte(text)
		for at := -2; at <= len(b)+2; at++ {
			sameAt(t, b, at)
		}
		for _, at := range []int{math.MinInt, math.MinInt + 1, -1, len(b), math.MaxInt - 3, math.MaxInt} {
			if r, width := impl.RuneAt(b, at); r != 0 || width != 0 {
				t.Fatal(text, at, r, width)
			}
		}
	}
	if r, width := impl.RuneAt(nil, 0); r != 0 || width != 0 {
		t.Fatal(r, width)
	}
}

func TestRuneAtHasNoMostText(t *testing.T) {
	b := []byte(strings.Repeat("x", 3*impl.MaxText) + "\u2212")
	for _, at := range []int{0, impl.MaxText, len(b) - 3, len(b) - 2, len(b) - 1, len(b)} {
		sameAt(t, b, at)
	}
}

// What lies behind a text's length would make its cut-off rune whole.
func TestRuneCutOffBeforeSpareRoom(t *testing.T) {
	for _, text := range []string{"\xd9", "\xe2\xa3", "\xf0\xa3\xa3", "\xe2", "\xf0"} {
		b := roomy([]byte(text))
		if r, width := impl.RuneAt(b, 0); r != impl.RuneBad || width != 1 {
			t.Fatalf("% x: %d, %d", b, r, width)
		}
		if impl.Clean(b) || len(impl.Runes(b)) != len(b) || len(impl.Plain(b)) != 3*len(b) {
			t.Fatalf("% x", b)
		}
	}
}

func TestRuneAtAllPairs(t *testing.T) {
	for first := range 256 {
		sameAt(t, []byte{byte(first)}, 0)
		for second := range 256 {
			sameAt(t, []byte{byte(first), byte(second)}, 0)
		}
	}
}

func TestRuneAtEdgeBytes(t *testing.T) {
	others := []byte{0, 127, 128, 129, 143, 144, 159, 160, 190, 191, 192, 255}
	for first := 128; first < 256; first++ {
		for _, second := range others {
			for _, third := range others {
				sameAt(t, []byte{byte(first), second, third}, 0)
				for _, fourth := range others {
					sameAt(t, []byte{byte(first), second, third, fourth}, 0)
					sameAt(t, []byte{'a', byte(first), second, third, fourth, 191}, 1)
				}
			}
		}
	}
}

func TestRunesOfTexts(t *testing.T) {
	for _, text := range texts() {
		b := []byte(text)
		if got := impl.Runes(b); !slices.Equal(got, wantRunes(b)) {
			t.Fatalf("Runes(%x) is %v, not %v", text, got, wantRunes(b))
		}
	}
	got := impl.Runes([]byte("\xef\xbf\xbd\xef\xbf\u0663"))
	if !slices.Equal(got, []int{65533, 65533, 65533, 1635}) {
		t.Fatal(got)
	}
}

func TestTextsThatAreTooLong(t *testing.T) {
	for _, piece := range []string{"x", "\xff", "5", " ", "\u0663", "\U0001F600"} {
		most := []byte(strings.Repeat(piece, impl.MaxText/len(piece)))
		if len(impl.Runes(most)) != impl.MaxText/len(piece) || len(impl.Plain(most)) == 0 {
			t.Fatalf("%x: a text of MaxText bytes", piece)
		}
		if impl.Clean(most) != (piece != "\xff") {
			t.Fatalf("%x: Clean of MaxText bytes", piece)
		}
		over := append(most, 'x')
		if len(impl.Runes(over)) != 0 || len(impl.Plain(over)) != 0 || impl.Clean(over) {
			t.Fatalf("%x: a text of one byte more than MaxText", piece)
		}
	}
}

func TestEmptyText(t *testing.T) {
	for _, b := range [][]byte{nil, {}, roomy(nil)} {
		if len(impl.Runes(b)) != 0 || len(impl.Plain(b)) != 0 || !impl.Clean(b) {
			t.Fatal("the empty text")
		}
	}
}

func TestRuneBytesLiterals(t *testing.T) {
	rows := []struct {
		r    int
		text string
	}{
		{0, "\x00"}, {127, "\x7f"}, {128, "\xc2\x80"}, {2047, "\xdf\xbf"}, {2048, "\xe0\xa0\x80"}, {55295, "\xed\x9f\xbf"},
		{57344, "\xee\x80\x80"}, {65533, "\xef\xbf\xbd"}, {65535, "\xef\xbf\xbf"}, {65536, "\xf0\x90\x80\x80"},
		{1114110, "\xf4\x8f\xbf\xbe"}, {1114111, "\xf4\x8f\xbf\xbf"}, {1114112, ""}, {55296, ""}, {57343, ""}, {-1, ""},
	}
	for _, row := range rows {
		if got := impl.RuneBytes(row.r); string(got) != row.text {
			t.Errorf("RuneBytes(%d) is %x, not %x", row.r, got, row.text)
		}
	}
}

func TestRuneBytesOfEveryRune(t *testing.T) {
	for r := -300; r <= impl.RuneMost+300; r++ {
		b := impl.RuneBytes(r)
		if !mayBe(r) {
			if len(b) != 0 {
				t.Fatal(r, b)
			}
			continue
		}
		if got, width := wantAt(b, 0); got != r || width != len(b) {
			t.Fatal(r, b)
		}
		if got, width := impl.RuneAt(b, 0); got != r || width != len(b) {
			t.Fatal(r, got, width)
		}
	}
}

func TestCleanLiterals(t *testing.T) {
	for _, text := range []string{"", "a", mixed, "\ufffd", "a\ufffd\ufffdb", "\ufffd\u0663"} {
		if !impl.Clean([]byte(text)) {
			t.Errorf("%x is clean", text)
		}
	}
	for _, text := range []string{"\xff", "a\xff", "\ufffd\xff", "\xff\ufffd", "\xef\xbf", "\xef\xbf\xef\xbf\xbd", "\xed\xa0\x80", "\xc0\x80", "a\xd9"} {
		if impl.Clean([]byte(text)) {
			t.Errorf("%x is not clean", text)
		}
	}
}

func TestCleanComesBackFromItsRunes(t *testing.T) {
	for _, text := range texts() {
		b := []byte(text)
		if impl.Clean(b) != wantClean(b) {
			t.Fatalf("Clean(%x)", text)
		}
		var back []byte
		for _, r := range impl.Runes(b) {
			back = append(back, impl.RuneBytes(r)...)
		}
		if bytes.Equal(back, b) != impl.Clean(b) {
			t.Fatalf("%x from its runes is %x", text, back)
		}
	}
}

func TestDigitOf(t *testing.T) {
	noughts := []int{48, 1632, 1776, 2406, 65296}
	want := map[int]int{}
	for _, nought := range noughts {
		for digit := range 10 {
			want[nought+digit] = digit
		}
	}
	for r := -66000; r <= impl.RuneMost+300; r++ {
		digit, ok := want[r]
		if !ok {
			digit = -1
		}
		if got := impl.DigitOf(r); got != digit {
			t.Fatalf("DigitOf(%d) is %d, not %d", r, got, digit)
		}
	}
}

func TestSignOf(t *testing.T) {
	want := map[int]int{43: 1, 65291: 1, 45: -1, 8722: -1, 65293: -1}
	for r := -66000; r <= impl.RuneMost+300; r++ {
		if got := impl.SignOf(r); got != want[r] {
			t.Fatalf("SignOf(%d) is %d, not %d", r, got, want[r])
		}
	}
}

func TestIsBlank(t *testing.T) {
	want := map[int]bool{9: true, 32: true, 160: true, 8201: true, 12288: true}
	for r := -66000; r <= impl.RuneMost+300; r++ {
		if got := impl.IsBlank(r); got != want[r] {
			t.Fatalf("IsBlank(%d) is %t", r, got)
		}
	}
}

func TestNumbersThatMayNotBe(t *testing.T) {
	for _, r := range strange() {
		if len(impl.RuneBytes(r)) != 0 {
			t.Errorf("RuneBytes(%d) is % x", r, impl.RuneBytes(r))
		}
		if impl.DigitOf(r) != -1 || impl.SignOf(r) != 0 || impl.IsBlank(r) {
			t.Errorf("%d is no digit, sign or blank", r)
		}
	}
}

func TestPlainLiterals(t *testing.T) {
	rows := []struct{ text, plain string }{
		{"", ""}, {"abc", "abc"}, {"0123456789+- ", "0123456789+- "},
		{"\u0660\u0661\u0662\u0663\u0664\u0665\u0666\u0667\u0668\u0669", "0123456789"},
		{"\u06f0\u06f1\u06f2\u06f3\u06f4\u06f5\u06f6\u06f7\u06f8\u06f9", "0123456789"},
		{"\u0966\u0967\u0968\u0969\u096a\u096b\u096c\u096d\u096e\u096f", "0123456789"},
		{"\uff10\uff11\uff12\uff13\uff14\uff15\uff16\uff17\uff18\uff19", "0123456789"},
		{"+\uff0b-\u2212\uff0d", "++---"}, {"\t \u00a0\u2009\u3000", "     "}, {"\n\r\v\f\u2008", "\n\r\v\f\u2008"},
		{"\u2212\u0661\u0662.\uff15e\uff0b\u06f3", "-12.5e+3"}, {"\u00e9\u065f\u066a\u0965\u0970\uff1a\U0001F600", "\u00e9\u065f\u066a\u0965\u0970\uff1a\U0001F600"},
		{"\xff", "\ufffd"}, {"\ufffd", "\ufffd"}, {"1\xd9\u0662", "1\ufffd2"}, {"\xed\xa0\x80", "\ufffd\ufffd\ufffd"}, {"\x00", "\x00"},
	}
	for _, row := range rows {
		if got := impl.Plain([]byte(row.text)); string(got) != row.plain {
			t.Errorf("Plain(%x) is %x, not %x", row.text, got, row.plain)
		}
	}
}

func TestPlainRuneByRune(t *testing.T) {
	for r := 0; r <= impl.RuneMost; r++ {
		want := impl.RuneBytes(r)
		if digit := impl.DigitOf(r); digit >= 0 {
			want = []byte{"0123456789"[digit]}
		} else if sign := impl.SignOf(r); sign != 0 {
			want = []byte{"-?+"[sign+1]}
		} else if impl.IsBlank(r) {
			want = []byte{32}
		}
		if got := impl.Plain(impl.RuneBytes(r)); !bytes.Equal(got, want) {
			t.Fatalf("Plain of the rune %d is %x, not %x", r, got, want)
		}
	}
}

func TestPlainStaysPlain(t *testing.T) {
	for _, text := range texts() {
		plain := impl.Plain([]byte(text))
		if len(plain) > impl.MaxText {
			continue
		}
		if again := impl.Plain(plain); !bytes.Equal(again, plain) || !impl.Clean(plain) {
			t.Fatalf("Plain(%x) is %x, and Plain of that %x", text, plain, again)
		}
	}
}

// RuneBad has three bytes when written, so what Plain answers may be longer than MaxText.
func TestPlainMayGrow(t *testing.T) {
	plain := impl.Plain(bytes.Repeat([]byte{0xff}, impl.MaxText))
	if string(plain) != strings.Repeat("\ufffd", impl.MaxText) {
		t.Fatal(len(plain))
	}
	if len(impl.Plain(plain)) != 0 {
		t.Fatal("a text longer than MaxText has no plain one")
	}
}

func TestArgumentsStayAsTheyWere(t *testing.T) {
	for _, text := range append(texts(), strings.Repeat("\u0663", impl.MaxText)) {
		was := []byte(text)
		b := roomy(was)
		for at := -1; at <= len(b); at++ {
			impl.RuneAt(b, at)
		}
		untouched(t, "RuneAt", b, was)
		impl.Runes(b)
		untouched(t, "Runes", b, was)
		impl.Clean(b)
		untouched(t, "Clean", b, was)
		plain := impl.Plain(b)
		untouched(t, "Plain", b, was)
		clear(plain[:cap(plain)])
		untouched(t, "what Plain answers shares memory, and", b, was)
	}
}

func TestAnswersAreNewMemory(t *testing.T) {
	b := []byte("a\u0663 ")
	first, second := impl.Plain(b), impl.Plain(b)
	clear(first[:cap(first)])
	clear(b)
	if string(second) != "a3 " {
		t.Fatal(second)
	}
	runes, others := impl.Runes([]byte(mixed)), impl.Runes([]byte(mixed))
	clear(runes[:cap(runes)])
	if !slices.Equal(others, wantRunes([]byte(mixed))) {
		t.Fatal(others)
	}
	for _, r := range []int{0, 97, 1635, 8722, 128512} {
		bytesOfRune, again := impl.RuneBytes(r), impl.RuneBytes(r)
		for i := range bytesOfRune {
			bytesOfRune[i] ^= 255
		}
		if got, width := impl.RuneAt(again, 0); got != r || width != len(again) {
			t.Fatal(r, again)
		}
		if got, _ := impl.RuneAt(impl.RuneBytes(r), 0); got != r {
			t.Fatal(r, got)
		}
	}
}
