package tests

import (
	"fmt"
	"math"
	"math/big"
	"math/rand"
	"slices"
	"strconv"
	"strings"
	"testing"

	"loop.example/g00382/impl"
)

// finest is a quarter of the least number: floats, and what lies half way between them, are multiples of it.
const finest = leastE - 2

// span has the numbers that become a float above 0 in RdEven: between two, the ends with it where M is even. All are told in 2^finest.
type span struct {
	low, number, high *big.Int
	ends              bool
}

// spanOf is made of the floats next to f's size: below a power of two they lie closer than above it.
func spanOf(f impl.Fl) span {
	number := new(big.Int).Abs(new(big.Int).Lsh(whole2(f), 2))
	quarter := two(f.E - leastE)
	half := new(big.Int).Lsh(quarter, 1)
	below := half
	if f.M == full && f.E > leastE {
		below = quarter
	}
	return span{new(big.Int).Sub(number, below), number, new(big.Int).Add(number, half), f.M%2 == 0}
}

// decimals is a span, told in 10^e divided by a number that takes away all fractions.
type decimals struct {
	span
	e    int
	unit *big.Int
}

func (s span) inTens(e int) decimals {
	unit, by := two(-finest), big.NewInt(1)
	if e >= 0 {
		unit.Mul(unit, ten(e))
	} else {
		by = ten(-e)
	}
	times := func(n *big.Int) *big.Int { return new(big.Int).Mul(n, by) }
	return decimals{span{times(s.low), times(s.number), times(s.high), s.ends}, e, unit}
}

func (d decimals) has(n *big.Int) bool {
	x := new(big.Int).Mul(n, d.unit)
	low, high := x.Cmp(d.low), x.Cmp(d.high)
	return low > 0 && high < 0 || d.ends && (low == 0 || high == 0)
}

// away is how far n times 10^e is from the number.
func (d decimals) away(n *big.Int) *big.Rat {
	x := new(big.Int).Mul(n, d.unit)
	return new(big.Rat).SetFrac(x.Abs(x.Sub(x, d.number)), d.unit)
}

// placeOfFirst is the power of ten of the number's first digit.
func (s span) placeOfFirst() int {
	place := int(float64(s.number.BitLen()+finest) * math.Log10(2))
	for s.inTens(place).floor().Sign() == 0 {
		place--
	}
	return place
}

func (d decimals) floor() *big.Int { return new(big.Int).Quo(d.number, d.unit) }

// wantShort goes from one digit on, and takes the nearest one of all numbers of so many digits that are in f's span.
func wantShort(f impl.Fl) impl.Dec {
	s := spanOf(f)
	place := s.placeOfFirst()
	for digits := 1; ; digits++ {
		var best impl.Dec
		var distance *big.Rat
		// Numbers with the first digit in the place below, in the same one and in the one above.
		for e := place - digits; e <= place-digits+2; e++ {
			all := s.inTens(e)
			for _, n := range []*big.Int{all.floor(), plus(all.floor(), 1)} {
				if n.Sign() == 0 || n.Cmp(ten(digits)) >= 0 || !all.has(n) {
					continue
				}
				away := new(big.Rat).Mul(all.away(n), ratTen(e))
				if distance == nil || away.Cmp(distance) < 0 || away.Cmp(distance) == 0 && ratOfDec(dec(n, e)).Cmp(ratOfDec(best)) < 0 {
					best, distance = dec(n, e), away
				}
			}
		}
		if distance != nil {
			best.Neg = f.Neg
			return best
		}
	}
}

func ratTen(k int) *big.Rat {
	if k < 0 {
		return new(big.Rat).SetFrac(big.NewInt(1), ten(-k))
	}
	return new(big.Rat).SetInt(ten(k))
}

// noneShorter asks by DecFloat alone: f comes back, and from nothing next to it that has a digit less.
func noneShorter(t *testing.T, f impl.Fl, d impl.Dec) {
	t.Helper()
	if back, _, ok := impl.DecFloat(d, impl.RdEven); !ok || back != f {
		t.Fatalf("FlShort of %v is %s, whose float is %v", f, wantDecText(d), back)
	}
	less := new(big.Int).Quo(bigOf(d.D), big.NewInt(10))
	for _, n := range []*big.Int{less, plus(less, 1)} {
		shorter := dec(n, d.E+1)
		shorter.Neg = d.Neg
		if len(bigOf(shorter.D).String()) >= len(bigOf(d.D).String()) || n.Sign() == 0 {
			continue
		}
		if back, _, _ := impl.DecFloat(shorter, impl.RdEven); back == f {
			t.Fatalf("FlShort of %v is %s, though %s is shorter", f, wantDecText(d), wantDecText(shorter))
		}
	}
}

func sameShort(t *testing.T, f impl.Fl) {
	t.Helper()
	got, ok := impl.FlShort(f)
	if !ok {
		t.Fatal("FlShort refuses", f)
	}
	if f.Kind == impl.FkZero {
		sameDec(t, "FlShort of a nought", got, impl.Dec{Neg: f.Neg})
	} else {
		sameDec(t, fmt.Sprint("FlShort of ", f), got, wantShort(f))
		noneShorter(t, f, got)
	}
	text := impl.FlText(f)
	if string(text) != wantDecText(got) {
		t.Fatalf("FlText of %v is %q, not %q", f, text, wantDecText(got))
	}
	back, flags, ok := impl.FlRead(text, impl.RdEven)
	_, want, _ := impl.DecFloat(got, impl.RdEven)
	if sameFl(t, "FlRead of "+string(text), back, flags, f, want); !ok {
		t.Fatalf("%q", text)
	}
	if x, err := strconv.ParseFloat(string(text), 64); err != nil || fromGo(x) != f {
		t.Fatalf("FlText of %v is %q, which Go reads as %v", f, text, x)
	}
	sameAsGo(t, f, got)
}

// sameAsGo: Go's shortest text is as long; where it is another number, that one is as near.
func sameAsGo(t *testing.T, f impl.Fl, got impl.Dec) {
	t.Helper()
	text := strconv.FormatFloat(ofGo(f), 'e', -1, 64)
	want, ok := wantRead(text)
	if !ok || len(bigOf(want.D).String()) != len(bigOf(got.D).String()) {
		t.Fatalf("FlShort of %v is %s, but Go's %s", f, wantDecText(got), text)
	}
	number := new(big.Rat).SetFrac(whole2(f), two(-leastE))
	ours, other := new(big.Rat).Sub(ratOfDec(got), number), new(big.Rat).Sub(ratOfDec(want), number)
	if order := ours.Abs(ours).Cmp(other.Abs(other)); order > 0 || order == 0 && bigOf(got.D).Cmp(bigOf(want.D)) > 0 {
		t.Fatalf("FlShort of %v is %s, but Go's %s", f, wantDecText(got), text)
	}
}

func TestFlShort(t *testing.T) {
	source := rand.New(rand.NewSource(610))
	for _, f := range edges() {
		if isFinite(f) {
			sameShort(t, f)
		}
	}
	for range 1500 {
		sameShort(t, someFl(source, source.Intn(mostE-leastE)+leastE, 1))
		sameShort(t, someFl(source, -50, 60))
	}
	for n := range 1200 {
		sameShort(t, num(n+1, leastE))
		f, _ := impl.FlOfInt(n-600, impl.RdEven)
		sameShort(t, f)
		f, _ = impl.FlDiv(f, num(5<<50, -49), impl.RdEven)
		sameShort(t, f)
	}
}

// Of a power of two the floats below lie nearer than those above.
func TestFlShortOfPowersOfTwo(t *testing.T) {
	for e := leastE; e <= mostE; e++ {
		f := num(full, e)
		sameShort(t, f)
		if e%3 == 0 {
			sameShort(t, impl.FlNext(f))
			sameShort(t, impl.FlNeg(impl.FlNext(impl.FlNeg(f))))
		}
	}
	for k := range 52 {
		sameShort(t, num(1<<k, leastE))
	}
}

// A float of few digits is that, whatever powers of ten it has.
func TestFlShortOfFewDigits(t *testing.T) {
	source := rand.New(rand.NewSource(611))
	for e := -300; e <= 290; e += 3 {
		for _, digits := range []int{1, 2, 9, 15} {
			n := 1 + source.Intn(int(ten(digits).Int64())-1)
			d := decInt(n, e)
			f, _, _ := impl.DecFloat(d, impl.RdEven)
			got, ok := impl.FlShort(f)
			if !ok {
				t.Fatal(f)
			}
			sameDec(t, "FlShort of a number of few digits", got, d)
		}
	}
}

// tied are floats that may lie half way between two decimal numbers that end so many digits behind the point:
// odd numbers of half of that, with a step that is hardly more.
func tied(source *rand.Rand) []impl.Fl {
	var list []impl.Fl
	for behind := 1; behind <= 22; behind++ {
		least := int(math.Ceil(-float64(behind) * math.Log2(10)))
		for e := least; e <= min(least+3, -behind-1); e++ {
			noughts := -behind - 1 - e
			for range 40 {
				odd := source.Intn(full>>noughts) | 1
				f := num(full|odd<<noughts, e)
				f.Neg = source.Intn(2) == 0
				list = append(list, f)
			}
		}
	}
	return list
}

// isTie says whether d and the number of as many digits above it in size lie as far from f, and both become f.
func isTie(f impl.Fl, d impl.Dec) bool {
	other := dec(plus(bigOf(d.D), 1), d.E)
	other.Neg = d.Neg
	if back, _, _ := impl.DecFloat(other, impl.RdEven); back != f {
		return false
	}
	sum := new(big.Rat).Add(ratOfDec(d), ratOfDec(other))
	return sum.Cmp(new(big.Rat).SetFrac(whole2(f), two(-leastE-1))) == 0
}

func TestFlShortOfTies(t *testing.T) {
	source := rand.New(rand.NewSource(612))
	ties, oddOnes := 0, 0
	for _, f := range tied(source) {
		sameShort(t, f)
		if d, _ := impl.FlShort(f); isTie(f, d) {
			ties++
			oddOnes += int(bigOf(d.D).Bit(0))
		}
	}
	if ties < 300 || oddOnes < 100 || oddOnes > ties-100 {
		t.Fatal("few ties:", ties, oddOnes)
	}
}

// Half way between two floats lies a text with a digit less: it comes back to an even M, and not to an odd one.
func TestFlShortAtTheEnds(t *testing.T) {
	found := [2]int{}
	for m := full + 1; m < full+2000; m++ {
		f := num(m, 2)
		sameShort(t, f)
		d, _ := impl.FlShort(f)
		s := spanOf(f)
		for _, end := range []*big.Int{s.low, s.high} {
			whole := new(big.Int).Rsh(end, -finest)
			if short := dec(whole, 0); short.E > 0 {
				found[m%2]++
				if (ratOfDec(d).Cmp(new(big.Rat).SetInt(whole)) == 0) != (m%2 == 0) {
					t.Fatalf("FlShort of %v is %s", f, wantDecText(d))
				}
			}
		}
	}
	if found[0] < 300 || found[1] < 300 {
		t.Fatal("few ends:", found)
	}
}

// Below a power of two the nearer text may be another float's, while the farther one above comes back.
func TestFlShortBesidePowersOfTwo(t *testing.T) {
	found := 0
	for e := leastE + 1; e <= mostE; e++ {
		f := num(full, e)
		d, _ := impl.FlShort(f)
		number := new(big.Rat).SetFrac(whole2(f), two(-leastE))
		below := dec(plus(bigOf(d.D), -1), d.E)
		above, distance := new(big.Rat).Sub(ratOfDec(d), number), new(big.Rat).Sub(number, ratOfDec(below))
		if above.Sign() > 0 && above.Cmp(distance) > 0 {
			found++
		}
	}
	if found == 0 {
		t.Fatal("the nearer one is always taken")
	}
}

func TestFlShortLiterals(t *testing.T) {
	rows := []struct {
		f    impl.Fl
		text string
	}{
		{nought, "0"}, {minus0, "-0"}, {one, "1"}, {opposite(one), "-1"}, {num(full, -53), "0.5"}, {num(7205759403792794, -56), "0.1"}, {num(-7205759403792794, -56), "-0.1"}, {num(5404319552844595, -54), "0.3"},
		{num(5404319552844596, -54), "0.30000000000000004"}, {num(6004799503160661, -54), "0.3333333333333333"}, {num(6004799503160661, -53), "0.6666666666666666"},
		{least, "5e-324"}, {opposite(least), "-5e-324"}, {num(2, leastE), "1e-323"}, {num(3, leastE), "1.5e-323"}, {num(4, leastE), "2e-323"}, {num(5, leastE), "2.5e-323"}, {num(20, leastE), "1e-322"}, {num(202, leastE), "1e-321"},
		{small, "2.2250738585072014e-308"}, {num(full-1, leastE), "2.225073858507201e-308"}, {num(full+1, leastE), "2.225073858507202e-308"},
		{greatest, "1.7976931348623157e308"}, {opposite(greatest), "-1.7976931348623157e308"}, {num(most-1, mostE), "1.7976931348623155e308"}, {num(full, mostE), "8.98846567431158e307"},
		{num(full, 1), "9007199254740992"}, {num(most, 0), "9007199254740991"}, {num(full+1, 1), "9007199254740994"}, {num(2384185791015625<<1, 21), "1e22"}, {num(full+1, -52), "1.0000000000000002"}, {num(most, -53), "0.9999999999999999"},
		// Half way between two texts of as few digits: the less one in size, be its last digit even or odd.
		{num(8000000000000010, -3), "1000000000000001.2"}, {num(8000000000000014, -3), "1000000000000001.7"}, {num(-8000000000000010, -3), "-1000000000000001.2"}, {num(-8000000000000014, -3), "-1000000000000001.7"},
		{num(6400000000000010, -3), "800000000000001.2"}, {num(6400000000000006, -3), "800000000000000.7"},
		// Half way to the next float, above or below: that text comes back to an even M, and not to an odd one.
		{num(4503599627370502, 2), "18014398509482010"}, {num(4503599627370507, 2), "18014398509482028"}, {num(4503599627370508, 2), "18014398509482030"}, {num(4503599627370503, 2), "18014398509482012"},
		// Of 2^-44 the text that ends with 801 is nearer, but the float below lies nearer to it.
		{num(full, -96), "5.684341886080802e-14"}, {num(-full, -96), "-5.684341886080802e-14"},
	}
	for _, row := range rows {
		if text := string(impl.FlText(row.f)); text != row.text {
			t.Errorf("%v: %s, not %s", row.f, text, row.text)
		}
		sameShort(t, row.f)
	}
}

func TestFlShortWrong(t *testing.T) {
	for _, f := range append(badFls(), inf, minusInf, nan) {
		got, ok := impl.FlShort(f)
		refusedDec(t, fmt.Sprint("FlShort of ", f), got, ok)
	}
	for _, f := range badFls() {
		if text := impl.FlText(f); len(text) != 0 {
			t.Fatalf("FlText of %v is %q", f, text)
		}
	}
}

func TestFlTextOfKinds(t *testing.T) {
	for text, f := range map[string]impl.Fl{"nan": nan, "inf": inf, "-inf": minusInf, "0": nought, "-0": minus0} {
		if got := string(impl.FlText(f)); got != text {
			t.Fatal(f, got)
		}
		for _, mode := range modes() {
			back, flags, ok := impl.FlRead([]byte(text), mode)
			if sameFl(t, "FlRead of "+text, back, flags, f, 0); !ok {
				t.Fatal(text)
			}
		}
	}
}

// What FlText tells is read as the next float or as f itself, whatever the mode is.
func TestFlReadInOtherModes(t *testing.T) {
	source := rand.New(rand.NewSource(613))
	for range 1500 {
		f := anyFl(source)
		if !isFinite(f) {
			continue
		}
		text := impl.FlText(f)
		number, _ := impl.FlShort(f)
		for _, mode := range modes() {
			got, flags, ok := impl.FlRead(text, mode)
			want, wantFlags, _ := impl.DecFloat(number, mode)
			if sameFl(t, "FlRead of "+string(text), got, flags, want, wantFlags); !ok {
				t.Fatal(string(text))
			}
			if flags == 0 && got != f {
				t.Fatal(f, got)
			}
		}
	}
}

func TestFlReadOfForms(t *testing.T) {
	for i, text := range append(numberTexts(), noNumbers()...) {
		number, is := wantRead(string(impl.Plain([]byte(text))))
		for _, mode := range []int{impl.RdEven, 1 + i%4} {
			got, flags, ok := impl.FlRead([]byte(text), mode)
			want, wantFlags, _ := impl.DecFloat(number, mode)
			switch text {
			case "nan":
				want, wantFlags, is = nan, 0, true
			case "inf", "+inf":
				want, wantFlags, is = inf, 0, true
			case "-inf":
				want, wantFlags, is = minusInf, 0, true
			}
			if sameFl(t, fmt.Sprintf("FlRead of %q", text), got, flags, want, wantFlags); ok != is {
				t.Fatalf("FlRead of %q: %t", text, ok)
			}
		}
	}
}

func TestFlReadLiterals(t *testing.T) {
	rows := []struct {
		text  string
		want  impl.Fl
		flags int
	}{
		{"nan", nan, 0}, {"inf", inf, 0}, {"+inf", inf, 0}, {"-inf", minusInf, 0}, {"\u2212inf", minusInf, 0}, {"\uff0dinf", minusInf, 0}, {"\uff0binf", inf, 0},
		{"0", nought, 0}, {"-0", minus0, 0}, {"+0.00e7", nought, 0}, {"-0e-999999", minus0, 0}, {"1", one, 0}, {"\u0661", one, 0}, {"-1.000", opposite(one), 0}, {"0.1e1", one, 0},
		{"0.1", num(7205759403792794, -56), inex}, {"-\uff10.\uff11", num(-7205759403792794, -56), inex}, {"1e309", inf, over}, {"-1e309", minusInf, over}, {"1e800", inf, over}, {"1e-324", nought, under}, {"-1e-324", minus0, under}, {"-1e-800", minus0, under},
		{"4.9e-324", least, under}, {"1.7976931348623157e308", greatest, inex}, {"1" + strings.Repeat("0", impl.MaxText-1), inf, over}, {"0." + strings.Repeat("0", impl.MaxText-3) + "1", nought, under},
	}
	for _, row := range rows {
		got, flags, ok := impl.FlRead([]byte(row.text), impl.RdEven)
		if sameFl(t, row.text, got, flags, row.want, row.flags); !ok {
			t.Fatal(row)
		}
	}
}

func TestFlReadRefuses(t *testing.T) {
	texts := []string{"-nan", "+nan", "\u2212nan", "NaN", "NAN", "Nan", "nan ", " nan", "nan0", "nann", "nan\x00", "na", "n", "an", "nan(1)", "nan\xff",
		"Inf", "INF", "iNF", "-Inf", "+INF", "infinity", "-infinity", "Infinity", "inf ", " inf", "-inf ", "- inf", "inf0", "inff", "in", "nf", "i", "--inf", "+-inf", "-+inf", "++inf", "inf-", "-inf\n", "\xffinf", "inf\xff", "infnan", "-in",
		"1e801", "-1e801", "1e-801", "10e800", "\uff29nf", "\u2212", "1" + strings.Repeat("0", impl.MaxText), "nan" + strings.Repeat(" ", impl.MaxText), strings.Repeat("\xff", impl.MaxText)}
	refused := func(text string, mode int) {
		t.Helper()
		if f, flags, ok := impl.FlRead([]byte(text), mode); f != nought || flags != 0 || ok {
			t.Fatalf("FlRead of %q in %d is %v, %d, %t", text, mode, f, flags, ok)
		}
	}
	for _, text := range append(texts, slices.DeleteFunc(noNumbers(), func(s string) bool { return s == "nan" || strings.TrimLeft(s, "+-") == "inf" })...) {
		for _, mode := range append(modes(), -1, 5) {
			refused(text, mode)
		}
	}
	for _, mode := range badModes() {
		for _, text := range []string{"nan", "inf", "+inf", "-inf", "0", "-0", "1", "0.1", "1e309", "-1e-324", "\u0661"} {
			refused(text, mode)
		}
	}
	if f, flags, ok := impl.FlRead(nil, impl.RdEven); f != nought || flags != 0 || ok {
		t.Fatal("no text")
	}
}

func TestFlShortMemory(t *testing.T) {
	for _, f := range edges() {
		first, _ := impl.FlShort(f)
		was := slices.Clone(first.D.L)
		second, _ := impl.FlShort(f)
		scribble(answers{nats: []impl.Nat{first.D}})
		third, _ := impl.FlShort(f)
		if !slices.Equal(second.D.L, was) || !slices.Equal(third.D.L, was) {
			t.Fatal("an answer shares memory:", f)
		}
		text := impl.FlText(f)
		told := string(text)
		scribble(answers{text: text})
		if again := string(impl.FlText(f)); again != told {
			t.Fatal("an answer shares memory:", told, again)
		}
	}
	for _, text := range []string{"nan", "-inf", "0", "-0.1", "\u0661.\u0662e\u2212\u0663", "1e", "1e801", "", "1\xd9"} {
		was := []byte(text)
		for _, mode := range append(modes(), -1, 5) {
			b := roomy(was)
			first, flags, ok := impl.FlRead(b, mode)
			untouched(t, "FlRead", b, was)
			if second, again, is := impl.FlRead(slices.Clip(slices.Clone(was)), mode); second != first || again != flags || is != ok {
				t.Fatal("what lies behind the length is read:", text)
			}
		}
	}
}
