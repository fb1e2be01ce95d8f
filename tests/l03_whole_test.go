package tests

import (
	"fmt"
	"math"
	"math/big"
	"math/rand"
	"slices"
	"strings"
	"testing"

	"loop.example/g00382/impl"
)

// whole makes a number of a big one, whatever its length, with spare room behind its limbs.
func whole(n *big.Int) impl.Whole {
	return impl.Whole{Neg: n.Sign() < 0, A: nat(new(big.Int).Abs(n))}
}

func wholeInt(n int) impl.Whole { return whole(big.NewInt(int64(n))) }

func bigOfWhole(a impl.Whole) *big.Int {
	size := bigOf(a.A)
	if a.Neg {
		return size.Neg(size)
	}
	return size
}

func minus(n *big.Int) *big.Int { return new(big.Int).Neg(n) }

// sameWhole fails unless got is want as its chapter wants it; a nought that has Neg is not.
func sameWhole(t *testing.T, name string, got impl.Whole, want *big.Int) {
	t.Helper()
	sameNat(t, name+", its size,", got.A, new(big.Int).Abs(want))
	if got.Neg != (want.Sign() < 0) || !impl.WholeOk(got) {
		t.Fatalf("%s is %v, not %v", name, got, want)
	}
}

// sameWholeTold fails unless got is want where that may be told, else the zero value and false.
func sameWholeTold(t *testing.T, name string, got impl.Whole, ok bool, want *big.Int) {
	t.Helper()
	if ok != (want.BitLen() <= natBits) {
		t.Fatalf("%s: %t, of %v", name, ok, want)
	}
	if !ok {
		want = new(big.Int)
	}
	sameWhole(t, name, got, want)
}

// manyWholes has the edges and patterns of natural numbers, with both signs.
func manyWholes() []*big.Int {
	var list []*big.Int
	for _, n := range manyNats() {
		list = append(list, n)
		if n.Sign() > 0 {
			list = append(list, minus(n))
		}
	}
	return append(list, minus(two(63)), plus(minus(two(63)), -1))
}

// badWholes has numbers that are not WholeOk.
func badWholes() []impl.Whole {
	list := []impl.Whole{{Neg: true}, {Neg: true, A: impl.Nat{L: []int{}}}, {Neg: true, A: roomyNat()}}
	for _, n := range badNats() {
		list = append(list, impl.Whole{A: n}, impl.Whole{Neg: true, A: n})
	}
	return list
}

// wholeAnswers is what a function of this chapter answers, told alike for all of them.
type wholeAnswers struct {
	wholes []impl.Whole
	text   []byte
	n      int
	ok     bool
}

func (a wholeAnswers) String() string {
	var parts []string
	for _, n := range a.wholes {
		parts = append(parts, fmt.Sprint(n.Neg, bigOf(n.A), len(n.A.L)))
	}
	return fmt.Sprintf("%s %q %d %t", strings.Join(parts, " "), a.text, a.n, a.ok)
}

type wholeCall struct {
	name string
	// binary says that b matters, too.
	binary bool
	call   func(a impl.Whole, b impl.Whole) wholeAnswers
}

func wholeCalls() []wholeCall {
	one := func(n impl.Whole, ok bool) wholeAnswers { return wholeAnswers{wholes: []impl.Whole{n}, ok: ok} }
	return []wholeCall{
		{"WholeOk", false, func(a, b impl.Whole) wholeAnswers { return wholeAnswers{ok: impl.WholeOk(a)} }},
		{"WholeCmp", true, func(a, b impl.Whole) wholeAnswers { return wholeAnswers{n: impl.WholeCmp(a, b)} }},
		{"WholeNeg", false, func(a, b impl.Whole) wholeAnswers { return one(impl.WholeNeg(a), false) }},
		{"WholeAdd", true, func(a, b impl.Whole) wholeAnswers { return one(impl.WholeAdd(a, b)) }},
		{"WholeSub", true, func(a, b impl.Whole) wholeAnswers { return one(impl.WholeSub(a, b)) }},
		{"WholeMul", true, func(a, b impl.Whole) wholeAnswers { return one(impl.WholeMul(a, b)) }},
		{"WholeDiv", true, func(a, b impl.Whole) wholeAnswers {
			q, r, ok := impl.WholeDiv(a, b)
			return wholeAnswers{wholes: []impl.Whole{q, r}, ok: ok}
		}},
		{"WholeText", false, func(a, b impl.Whole) wholeAnswers { return wholeAnswers{text: impl.WholeText(a)} }},
	}
}

// wholeRefusal is what a call answers where an argument is not WholeOk.
func wholeRefusal(name string) string {
	switch name {
	case "WholeNeg", "WholeAdd", "WholeSub", "WholeMul":
		return wholeAnswers{wholes: make([]impl.Whole, 1)}.String()
	case "WholeDiv":
		return wholeAnswers{wholes: make([]impl.Whole, 2)}.String()
	}
	return wholeAnswers{}.String()
}

func TestWholeOk(t *testing.T) {
	for _, n := range manyWholes() {
		if !impl.WholeOk(whole(n)) {
			t.Fatal(n)
		}
	}
	for _, n := range badWholes() {
		if impl.WholeOk(n) {
			t.Fatal(n)
		}
	}
	if !impl.WholeOk(impl.Whole{}) || !impl.WholeOk(impl.Whole{A: impl.Nat{L: []int{}}}) {
		t.Fatal("0")
	}
	full := slices.Repeat([]int{65535}, impl.MaxLimbs)
	for _, neg := range []bool{false, true} {
		if !impl.WholeOk(impl.Whole{Neg: neg, A: impl.Nat{L: full}}) || impl.WholeOk(impl.Whole{Neg: neg, A: impl.Nat{L: append(full, 1)}}) {
			t.Fatal("MaxLimbs limbs, and one more")
		}
	}
}

func TestWholeOf(t *testing.T) {
	list := []int{0, 1, 9, 65535, 65536, 65537, 1 << 32, 1<<48 - 1, 1 << 48, 1<<62 - 1, 1 << 62, 1<<62 + 1, math.MaxInt - 1, math.MaxInt}
	for _, n := range slices.Clone(list) {
		list = append(list, -n)
	}
	for _, n := range append(list, math.MinInt, math.MinInt+1, math.MinInt+2) {
		sameWhole(t, fmt.Sprint("WholeOf ", n), impl.WholeOf(n), big.NewInt(int64(n)))
		if text := string(impl.WholeText(impl.WholeOf(n))); text != fmt.Sprint(n) {
			t.Fatal(n, text)
		}
	}
	for n := -70000; n <= 70000; n++ {
		sameWhole(t, fmt.Sprint("WholeOf ", n), impl.WholeOf(n), big.NewInt(int64(n)))
	}
	least := impl.WholeOf(math.MinInt)
	if !least.Neg || !slices.Equal(least.A.L, []int{0, 0, 0, 32768}) {
		t.Fatal(least)
	}
}

func TestWholePairs(t *testing.T) {
	for _, x := range manyWholes() {
		for _, y := range manyWholes() {
			a, b := whole(x), whole(y)
			if impl.WholeCmp(a, b) != x.Cmp(y) {
				t.Fatalf("WholeCmp of %v and %v is %d", x, y, impl.WholeCmp(a, b))
			}
			sum, ok := impl.WholeAdd(a, b)
			sameWholeTold(t, "a sum", sum, ok, new(big.Int).Add(x, y))
			rest, ok := impl.WholeSub(a, b)
			sameWholeTold(t, "a difference", rest, ok, new(big.Int).Sub(x, y))
			opposite, is := impl.WholeAdd(a, impl.WholeNeg(b))
			if ok != is || rest.Neg != opposite.Neg || !slices.Equal(rest.A.L, opposite.A.L) {
				t.Fatalf("%v without %v is %v, not %v", x, y, rest, opposite)
			}
			product, ok := impl.WholeMul(a, b)
			sameWholeTold(t, "a product", product, ok, new(big.Int).Mul(x, y))
			sameWholeQuotient(t, x, y)
		}
	}
}

// sameWholeQuotient asks what the promise says, and what another reckoner answers.
func sameWholeQuotient(t *testing.T, x *big.Int, y *big.Int) {
	t.Helper()
	q, r, ok := impl.WholeDiv(whole(x), whole(y))
	if y.Sign() == 0 {
		if ok || q.Neg || r.Neg || len(q.A.L)+len(r.A.L) != 0 {
			t.Fatalf("%v divided by 0 is %v, %v", x, q, r)
		}
		return
	}
	if !ok {
		t.Fatalf("%v divided by %v", x, y)
	}
	wantQ, wantR := new(big.Int).DivMod(x, y, new(big.Int))
	sameWhole(t, "the quotient", q, wantQ)
	sameWhole(t, "what is left", r, wantR)
	if impl.WholeCmp(r, impl.Whole{}) < 0 || impl.NatCmp(r.A, whole(y).A) >= 0 {
		t.Fatalf("%v divided by %v leaves %v", x, y, r)
	}
	product, ok := impl.WholeMul(q, whole(y))
	sameWholeTold(t, "the quotient times the divisor", product, ok, wantQ.Mul(wantQ, y))
	// Where the quotient was made one greater in size, that product may be too great to be told.
	if !ok {
		return
	}
	if sum, ok := impl.WholeAdd(product, r); !ok || impl.WholeCmp(sum, whole(x)) != 0 {
		t.Fatalf("%v divided by %v is %v, %v", x, y, q, r)
	}
}

func TestWholeDivLiterals(t *testing.T) {
	rows := [][4]int{
		{7, 2, 3, 1}, {-7, 2, -4, 1}, {7, -2, -3, 1}, {-7, -2, 4, 1}, {6, 2, 3, 0}, {-6, 2, -3, 0}, {6, -2, -3, 0}, {-6, -2, 3, 0},
		{0, 5, 0, 0}, {0, -5, 0, 0}, {3, 5, 0, 3}, {-3, 5, -1, 2}, {3, -5, 0, 3}, {-3, -5, 1, 2}, {-1, 65536, -1, 65535}, {-1, -65536, 1, 65535},
		{5, 5, 1, 0}, {5, -5, -1, 0}, {-5, 5, -1, 0}, {-5, -5, 1, 0}, {-1, 1, -1, 0}, {-1, -1, 1, 0}, {1, -1, -1, 0}, {-1, 2, -1, 1}, {-1, -2, 1, 1},
		{-65537, 65536, -2, 65535}, {-65536, 65536, -1, 0}, {-65536, 65537, -1, 1}, {-65535, 65536, -1, 1},
		{math.MinInt, 10, -922337203685477581, 2}, {math.MinInt, -10, 922337203685477581, 2}, {math.MinInt, math.MinInt, 1, 0}, {math.MinInt, math.MaxInt, -2, math.MaxInt - 1},
		{math.MaxInt, math.MinInt, 0, math.MaxInt},
	}
	for _, row := range rows {
		q, r, ok := impl.WholeDiv(wholeInt(row[0]), wholeInt(row[1]))
		if !ok {
			t.Fatal(row)
		}
		sameWhole(t, fmt.Sprint("the quotient of ", row), q, big.NewInt(int64(row[2])))
		sameWhole(t, fmt.Sprint("what is left of ", row), r, big.NewInt(int64(row[3])))
	}
	for x := -40; x <= 40; x++ {
		for y := -40; y <= 40; y++ {
			sameWholeQuotient(t, big.NewInt(int64(x)), big.NewInt(int64(y)))
		}
	}
}

// Numbers next to a multiple of the divisor are where a quotient goes up or stays.
func TestWholeQuotientsNextToMultiples(t *testing.T) {
	source := rand.New(rand.NewSource(31))
	for range 2000 {
		by, times := patterned(source, 1+source.Intn(12)), patterned(source, 1+source.Intn(12))
		multiple := new(big.Int).Mul(by, times)
		for _, off := range []int64{-1, 0, 1} {
			near := plus(multiple, off)
			sameWholeQuotient(t, near, by)
			sameWholeQuotient(t, minus(near), by)
			sameWholeQuotient(t, near, minus(by))
			sameWholeQuotient(t, minus(near), minus(by))
		}
	}
	// The quotient's size goes up by one through all of its limbs.
	for limbs := 1; limbs < impl.MaxLimbs-1; limbs++ {
		full := plus(two(16*limbs), -1)
		x := plus(minus(new(big.Int).Mul(full, big.NewInt(7))), -1)
		q, r, ok := impl.WholeDiv(whole(x), wholeInt(7))
		sameWholeTold(t, "the quotient", q, ok, minus(two(16*limbs)))
		sameWhole(t, "what is left", r, big.NewInt(6))
	}
}

func TestWholeOppositesMakeNought(t *testing.T) {
	for _, x := range manyWholes() {
		a := whole(x)
		opposite := impl.WholeNeg(a)
		sameWhole(t, "the opposite", opposite, minus(x))
		sameWhole(t, "the opposite's opposite", impl.WholeNeg(opposite), x)
		sum, ok := impl.WholeAdd(a, opposite)
		sameWholeTold(t, "a number and its opposite", sum, ok, new(big.Int))
		sum, ok = impl.WholeAdd(opposite, a)
		sameWholeTold(t, "the opposite and the number", sum, ok, new(big.Int))
		rest, ok := impl.WholeSub(a, a)
		sameWholeTold(t, "a number without itself", rest, ok, new(big.Int))
		if impl.WholeCmp(a, opposite) != x.Sign() || impl.WholeCmp(opposite, a) != -x.Sign() || impl.WholeCmp(a, a) != 0 {
			t.Fatal(x)
		}
	}
}

func TestWholeNoughtInEveryPlace(t *testing.T) {
	for _, nought := range []impl.Whole{{}, {A: impl.Nat{L: []int{}}}, {A: roomyNat()}, impl.WholeOf(0)} {
		for _, x := range manyWholes() {
			a := whole(x)
			if impl.WholeCmp(a, nought) != x.Sign() || impl.WholeCmp(nought, a) != -x.Sign() {
				t.Fatal(x)
			}
			got, ok := impl.WholeAdd(a, nought)
			sameWholeTold(t, "a number and 0", got, ok, x)
			got, ok = impl.WholeAdd(nought, a)
			sameWholeTold(t, "0 and a number", got, ok, x)
			got, ok = impl.WholeSub(a, nought)
			sameWholeTold(t, "a number without 0", got, ok, x)
			got, ok = impl.WholeSub(nought, a)
			sameWholeTold(t, "0 without a number", got, ok, minus(x))
			got, ok = impl.WholeMul(a, nought)
			sameWholeTold(t, "a number times 0", got, ok, new(big.Int))
			got, ok = impl.WholeMul(nought, a)
			sameWholeTold(t, "0 times a number", got, ok, new(big.Int))
			q, r, ok := impl.WholeDiv(nought, a)
			if ok != (x.Sign() != 0) || q.Neg || r.Neg || len(q.A.L)+len(r.A.L) != 0 {
				t.Fatal(x, q, r)
			}
			q, r, ok = impl.WholeDiv(a, nought)
			if ok || q.Neg || r.Neg || len(q.A.L)+len(r.A.L) != 0 {
				t.Fatal(x, q, r)
			}
		}
		sameWhole(t, "the opposite of 0", impl.WholeNeg(nought), new(big.Int))
		if text := string(impl.WholeText(nought)); text != "0" {
			t.Fatal(text)
		}
	}
}

func TestWholeSumsInAnyOrder(t *testing.T) {
	source := rand.New(rand.NewSource(32))
	draw := func() impl.Whole {
		n := patterned(source, 1+source.Intn(30))
		if source.Intn(2) == 0 {
			n.Neg(n)
		}
		return whole(n)
	}
	same := func(a impl.Whole, b impl.Whole) bool { return a.Neg == b.Neg && slices.Equal(a.A.L, b.A.L) }
	for range 1000 {
		a, b, c := draw(), draw(), draw()
		ab, _ := impl.WholeAdd(a, b)
		ba, _ := impl.WholeAdd(b, a)
		bc, _ := impl.WholeAdd(b, c)
		left, ok := impl.WholeAdd(ab, c)
		right, is := impl.WholeAdd(a, bc)
		if !ok || !is || !same(ab, ba) || !same(left, right) {
			t.Fatal(a, b, c)
		}
		if back, ok := impl.WholeSub(ab, b); !ok || !same(back, a) {
			t.Fatal(a, b)
		}
		xy, _ := impl.WholeMul(a, b)
		yx, _ := impl.WholeMul(b, a)
		yz, _ := impl.WholeMul(b, c)
		left, ok = impl.WholeMul(xy, c)
		right, is = impl.WholeMul(a, yz)
		if !ok || !is || !same(xy, yx) || !same(left, right) {
			t.Fatal(a, b, c)
		}
		xz, _ := impl.WholeMul(a, c)
		parts, _ := impl.WholeAdd(xz, yz)
		if product, ok := impl.WholeMul(ab, c); !ok || !same(parts, product) {
			t.Fatal(a, b, c)
		}
	}
}

func TestWholeMayNotBeTold(t *testing.T) {
	for _, sign := range []int64{1, -1} {
		times := func(n *big.Int) impl.Whole { return whole(new(big.Int).Mul(n, big.NewInt(sign))) }
		most, one := times(mostNat()), times(big.NewInt(1))
		other := impl.WholeNeg(one)
		refused := func(name string, got impl.Whole, ok bool) {
			t.Helper()
			if ok || got.Neg || len(got.A.L) != 0 {
				t.Fatal(name, got)
			}
		}
		accepted := func(name string, got impl.Whole, ok bool, want *big.Int) {
			t.Helper()
			sameWholeTold(t, name, got, ok, want)
		}
		got, ok := impl.WholeAdd(most, one)
		refused("a sum", got, ok)
		got, ok = impl.WholeAdd(one, most)
		refused("a sum", got, ok)
		got, ok = impl.WholeAdd(most, most)
		refused("a sum", got, ok)
		got, ok = impl.WholeSub(most, other)
		refused("a difference", got, ok)
		got, ok = impl.WholeSub(other, most)
		refused("a difference", got, ok)
		got, ok = impl.WholeMul(times(two(800)), whole(two(800)))
		refused("a product", got, ok)
		got, ok = impl.WholeMul(most, wholeInt(-2))
		refused("a product", got, ok)

		got, ok = impl.WholeAdd(most, other)
		accepted("a sum", got, ok, new(big.Int).Mul(plus(mostNat(), -1), big.NewInt(sign)))
		got, ok = impl.WholeAdd(times(plus(mostNat(), -1)), one)
		accepted("a sum", got, ok, bigOfWhole(most))
		got, ok = impl.WholeSub(most, impl.WholeNeg(impl.Whole{}))
		accepted("a difference", got, ok, bigOfWhole(most))
		got, ok = impl.WholeSub(most, most)
		accepted("a difference", got, ok, new(big.Int))
		got, ok = impl.WholeMul(times(two(800)), whole(plus(two(800), -1)))
		accepted("a product", got, ok, new(big.Int).Mul(new(big.Int).Sub(two(1600), two(800)), big.NewInt(sign)))
		got, ok = impl.WholeMul(most, wholeInt(-1))
		accepted("a product", got, ok, minus(bigOfWhole(most)))
	}
}

// No quotient is greater in size than what was divided, so these are the greatest there are.
func TestWholeGreatestQuotients(t *testing.T) {
	most := mostNat()
	half := new(big.Int).Rsh(most, 1)
	rows := []struct {
		x, y, q, r *big.Int
	}{
		{most, big.NewInt(1), most, new(big.Int)}, {minus(most), big.NewInt(1), minus(most), new(big.Int)},
		{most, big.NewInt(-1), minus(most), new(big.Int)}, {minus(most), big.NewInt(-1), most, new(big.Int)},
		{most, big.NewInt(2), half, big.NewInt(1)}, {minus(most), big.NewInt(2), minus(plus(half, 1)), big.NewInt(1)},
		{most, big.NewInt(-2), minus(half), big.NewInt(1)}, {minus(most), big.NewInt(-2), plus(half, 1), big.NewInt(1)},
		{minus(most), most, big.NewInt(-1), new(big.Int)}, {minus(most), minus(most), big.NewInt(1), new(big.Int)},
		{big.NewInt(-1), most, big.NewInt(-1), plus(most, -1)}, {big.NewInt(-1), minus(most), big.NewInt(1), plus(most, -1)},
		{big.NewInt(1), minus(most), new(big.Int), big.NewInt(1)},
		{minus(most), plus(most, -1), big.NewInt(-2), plus(most, -2)}, {minus(plus(most, -1)), most, big.NewInt(-1), big.NewInt(1)},
	}
	for _, row := range rows {
		q, r, ok := impl.WholeDiv(whole(row.x), whole(row.y))
		sameWholeTold(t, "the quotient", q, ok, row.q)
		sameWhole(t, "what is left", r, row.r)
	}
}

func TestWholeTexts(t *testing.T) {
	for _, x := range manyWholes() {
		text := impl.WholeText(whole(x))
		if string(text) != x.String() {
			t.Fatalf("%v is told as %s", x, text)
		}
		back, ok := impl.WholeRead(text)
		if len(text) > impl.MaxText {
			if ok || back.Neg || len(back.A.L) != 0 {
				t.Fatal(x, back)
			}
			continue
		}
		if !ok {
			t.Fatal(x)
		}
		sameWhole(t, "WholeRead of "+string(text), back, x)
	}
	if len(impl.WholeText(whole(mostNat()))) != 482 || len(impl.WholeText(whole(minus(mostNat())))) != 483 {
		t.Fatal("the greatest number")
	}
	for n := -10100; n <= 10100; n++ {
		text := impl.WholeText(wholeInt(n))
		back, ok := impl.WholeRead(text)
		if string(text) != fmt.Sprint(n) || !ok {
			t.Fatal(n, text)
		}
		sameWhole(t, "WholeRead", back, big.NewInt(int64(n)))
	}
}

func TestWholeReadLiterals(t *testing.T) {
	rows := []struct {
		text string
		n    int
	}{
		{"0", 0}, {"+0", 0}, {"-0", 0}, {"-000", 0}, {"00", 0}, {"\u2212\u0660", 0}, {"\uff0d\uff10", 0}, {"7", 7}, {"+7", 7}, {"-7", -7},
		{"007", 7}, {"+007", 7}, {"-007", -7}, {"65536", 65536}, {"-65536", -65536}, {"\uff0b12", 12}, {"\u221212", -12}, {"\uff0d12", -12},
		{"\u0661\u0662", 12}, {"\u06f1\u06f2", 12}, {"\u0967\u0968", 12}, {"\uff11\uff12", 12}, {"\u2212\u0661\u06f2\u0969\uff144", -12344},
		{"-\u0660\u06f0\u0966\uff10\u0669", -9}, {"9223372036854775807", math.MaxInt}, {"\u22129223372036854775808", math.MinInt},
	}
	for _, row := range rows {
		got, ok := impl.WholeRead([]byte(row.text))
		if !ok {
			t.Fatalf("%q", row.text)
		}
		sameWhole(t, row.text, got, big.NewInt(int64(row.n)))
	}
}

// inScript writes a plain text's digits as those that follow a script's nought, or as each script's in turn.
func inScript(text string, noughts ...int) string {
	var out strings.Builder
	for i, r := range text {
		if r >= '0' && r <= '9' {
			r = rune(noughts[i%len(noughts)]) + r - '0'
		}
		out.WriteRune(r)
	}
	return out.String()
}

func TestWholeDigitsOfAnyScript(t *testing.T) {
	scripts := [][]int{{48}, {1632}, {1776}, {2406}, {65296}, {48, 1632, 1776, 2406, 65296}, {65296, 48}}
	signs := []struct {
		text string
		neg  bool
	}{{"", false}, {"+", false}, {"\uff0b", false}, {"-", true}, {"\u2212", true}, {"\uff0d", true}}
	for _, noughts := range scripts {
		for _, n := range manyNats() {
			for _, sign := range signs {
				text := sign.text + inScript(n.String(), noughts...)
				if len(text) > impl.MaxText {
					continue
				}
				got, ok := impl.WholeRead([]byte(text))
				want := n
				if sign.neg {
					want = minus(n)
				}
				if !ok {
					t.Fatalf("%q", text)
				}
				sameWhole(t, text, got, want)
			}
		}
	}
}

// readOfLength fails unless text is read, and as n, just if it has at most MaxText bytes.
func readOfLength(t *testing.T, text string, n *big.Int) {
	t.Helper()
	got, ok := impl.WholeRead([]byte(text))
	if ok != (len(text) <= impl.MaxText) {
		t.Fatalf("%d bytes: %t", len(text), ok)
	}
	if !ok {
		n = new(big.Int)
	}
	sameWhole(t, "a long text", got, n)
}

func TestWholeReadOfLongTexts(t *testing.T) {
	for _, k := range []int{99, 100, 101, 130, 131, 132, 133, 134, 198, 199, 200, 201, 396, 397, 398, 399, 400, 401, 402, 482, 1000, 50000} {
		for _, digits := range []string{strings.Repeat("9", k), "1" + strings.Repeat("0", k-1), strings.Repeat("0", k), strings.Repeat("0", k-1) + "8"} {
			n, _ := new(big.Int).SetString(digits, 10)
			// A text may be too long, though what Plain would make of it is not.
			for _, nought := range []int{48, 1632, 2406, 65296} {
				written := inScript(digits, nought)
				readOfLength(t, written, n)
				readOfLength(t, "+"+written, n)
				readOfLength(t, "\uff0b"+written, n)
				readOfLength(t, "-"+written, minus(n))
				readOfLength(t, "\u2212"+written, minus(n))
			}
		}
	}
	for _, x := range []*big.Int{mostNat(), minus(mostNat())} {
		if got, ok := impl.WholeRead(impl.WholeText(whole(x))); ok || got.Neg || len(got.A.L) != 0 {
			t.Fatal("the greatest number's text is longer than MaxText", got)
		}
	}
}

func TestWholeReadRefuses(t *testing.T) {
	texts := []string{"", "+", "-", "\u2212", "\uff0b", "\uff0d", "++1", "--1", "+-1", "-+1", "-\u22121", "\uff0b+1", "1+", "1-", "1\u2212", "-1-", "1-1", "1+1",
		" ", " 1", "1 ", "- 1", "-1 ", " -1", "1 2", "1\t2", "1\u00a02", "1\u20092", "1\u30002", "\t1", "1\u00a0", "\u30001", "-\u20091", "1\n", "\n1", "1\u20082",
		"a", "1a", "a1", "-a", "0x10", "1e3", "1.0", ".", "1.", "1,0", "1_0", "\u0663a", "\u066a", "1\u0665\u066a", "\u065f", "\u0970", "\uff1a", "\uff0f", "/", ":", "1/", "1:",
		"\x00", "1\x00", "\xff", "1\xff", "-\xff", "\ufffd", "1\ufffd", "\xd9", "1\xd9", "\xb1", "\xe2\x88", "\xe2\x881", "\u00b2", "\u0be7", "\u09e7", "\U0001d7ce", "\u2013" + "1", "\u00ad1", "\u207b1",
		strings.Repeat("\xff", impl.MaxText), strings.Repeat("1", impl.MaxText-1) + "x", strings.Repeat("1", impl.MaxText-1) + "\xff", strings.Repeat("1", impl.MaxText-1) + "-",
		strings.Repeat("1", impl.MaxText-1) + " ", strings.Repeat("+", impl.MaxText), strings.Repeat(" ", impl.MaxText), "-" + strings.Repeat("\xff", 133), "-" + strings.Repeat("\xff", 134)}
	for _, text := range texts {
		if got, ok := impl.WholeRead([]byte(text)); ok || got.Neg || len(got.A.L) != 0 {
			t.Errorf("%q is read as %v", text, got)
		}
	}
	if got, ok := impl.WholeRead(nil); ok || got.Neg || len(got.A.L) != 0 {
		t.Error("no text")
	}
}

// Every rune alone, ahead of a digit and behind one: digits and signs by chapter 1 alone.
func TestWholeReadRuneByRune(t *testing.T) {
	for r := 0; r <= impl.RuneMost; r++ {
		text := string(impl.RuneBytes(r))
		if text == "" {
			continue
		}
		digit, sign := impl.DigitOf(r), impl.SignOf(r)
		rows := []struct {
			text string
			ok   bool
			want int
		}{
			{text, digit >= 0, digit}, {"4" + text, digit >= 0, 40 + digit}, {"-" + text, digit >= 0, -digit},
			{text + "4", digit >= 0 || sign != 0, max(0, digit)*10 + 4},
		}
		if sign < 0 {
			rows[3].want = -4
		}
		for _, row := range rows {
			if got, ok := impl.WholeRead([]byte(row.text)); ok != row.ok || string(impl.WholeText(got)) != fmt.Sprint(row.want) && ok || !ok && (got.Neg || len(got.A.L) > 0) {
				t.Fatalf("%q is read as %v, %t", row.text, got, ok)
			}
		}
	}
}

func TestWholeWrongNumbers(t *testing.T) {
	good := []impl.Whole{{}, wholeInt(1), wholeInt(-1), wholeInt(7), whole(minus(two(500))), whole(mostNat()), whole(minus(mostNat()))}
	for _, c := range wholeCalls() {
		zero := wholeRefusal(c.name)
		for _, bad := range badWholes() {
			for _, other := range append(slices.Clone(good), bad, impl.Whole{Neg: !bad.Neg, A: bad.A}) {
				if got := c.call(bad, other).String(); got != zero {
					t.Fatalf("%s of %v, %v is %s", c.name, bad, other, got)
				}
				if !c.binary {
					continue
				}
				if got := c.call(other, bad).String(); got != zero {
					t.Fatalf("%s of %v, %v is %s", c.name, other, bad, got)
				}
			}
		}
	}
}

func scribbleWholes(a wholeAnswers) {
	var nats []impl.Nat
	for _, n := range a.wholes {
		nats = append(nats, n.A)
	}
	scribble(answers{nats: nats, text: a.text})
}

func TestWholeMemory(t *testing.T) {
	var numbers []impl.Whole
	for _, n := range []impl.Nat{natInt(1), natInt(65535), natInt(65536), nat(two(100)), nat(plus(two(100), -1)), nat(ten(40)), nat(mostNat()), roomyNat(),
		roomyNat(5, 0), roomyNat(-1, 3), roomyNat(slices.Repeat([]int{2}, impl.MaxLimbs+1)...)} {
		numbers = append(numbers, impl.Whole{A: n}, impl.Whole{Neg: true, A: n})
	}
	for _, c := range wholeCalls() {
		for _, a := range numbers {
			for _, b := range numbers {
				wasA, wasB := slices.Clone(a.A.L[:cap(a.A.L)]), slices.Clone(b.A.L[:cap(b.A.L)])
				first := c.call(a, b)
				sameLists(t, c.name, a.A, wasA)
				sameLists(t, c.name, b.A, wasB)
				told := first.String()
				second := c.call(a, b)
				scribbleWholes(first)
				sameLists(t, c.name+" shares memory, and", a.A, wasA)
				sameLists(t, c.name+" shares memory, and", b.A, wasB)
				if second.String() != told {
					t.Fatalf("%s hands out what it keeps", c.name)
				}
				if third := c.call(a, b); third.String() != told {
					t.Fatalf("%s keeps something", c.name)
				}
			}
		}
	}
}

func TestWholeDivListsAreApart(t *testing.T) {
	for _, x := range manyWholes() {
		for _, y := range []*big.Int{big.NewInt(1), big.NewInt(-1), big.NewInt(7), two(16), minus(two(16)), plus(two(80), 3), x, minus(x), mostNat(), minus(mostNat())} {
			q, r, _ := impl.WholeDiv(whole(x), whole(y))
			wantR := slices.Clone(r.A.L)
			scribble(answers{nats: []impl.Nat{q.A}})
			if !slices.Equal(r.A.L, wantR) {
				t.Fatal(x, y)
			}
			q, r, _ = impl.WholeDiv(whole(x), whole(y))
			wantQ := slices.Clone(q.A.L)
			scribble(answers{nats: []impl.Nat{r.A}})
			if !slices.Equal(q.A.L, wantQ) {
				t.Fatal(x, y)
			}
		}
	}
}

// One list may be handed in for both arguments, with either sign, or lie across the other.
func TestWholeArgumentsThatShare(t *testing.T) {
	all := []int{65535, 7, 65535, 1, 65535, 65535, 9}
	was := slices.Clone(all)
	for _, c := range wholeCalls() {
		for i := range len(all) {
			for j := i; j < len(all); j++ {
				for signs := range 4 {
					a := impl.Whole{Neg: signs%2 == 1, A: impl.Nat{L: all[i : j+1]}}
					for _, list := range [][]int{all[j:], all[i : j+1]} {
						b := impl.Whole{Neg: signs/2 == 1, A: impl.Nat{L: list}}
						want := c.call(impl.Whole{Neg: a.Neg, A: roomyNat(a.A.L...)}, impl.Whole{Neg: b.Neg, A: roomyNat(list...)})
						if got := c.call(a, b); got.String() != want.String() {
							t.Fatalf("%s of lists that share: %s, not %s", c.name, got, want)
						}
					}
				}
			}
		}
	}
	if !slices.Equal(all, was) {
		t.Fatal(all)
	}
}

func TestWholeReadMemory(t *testing.T) {
	for _, text := range []string{"0", "-0", "7", "-65536", "\u2212\u0661\u0662", "+\uff15", strings.Repeat("8", impl.MaxText), "007", "", "-", "1x", "1\xd9", strings.Repeat("8", impl.MaxText+1)} {
		was := []byte(text)
		b := roomy(was)
		got, ok := impl.WholeRead(b)
		untouched(t, "WholeRead", b, was)
		told := wholeAnswers{wholes: []impl.Whole{got}, ok: ok}.String()
		again, is := impl.WholeRead(b)
		scribbleWholes(wholeAnswers{wholes: []impl.Whole{got}})
		untouched(t, "WholeRead shares memory, and", b, was)
		if (wholeAnswers{wholes: []impl.Whole{again}, ok: is}).String() != told {
			t.Fatal(text, again)
		}
	}
	// What lies behind the length would be read as more digits.
	long := []byte("-123456")
	if got, ok := impl.WholeRead(long[:4]); !ok || string(impl.WholeText(got)) != "-123" {
		t.Fatal(got)
	}
	if got, ok := impl.WholeRead(long[:1]); ok {
		t.Fatal(got)
	}
	for _, n := range []int{math.MinInt, -1, 123456789} {
		first, second := impl.WholeOf(n), impl.WholeOf(n)
		scribbleWholes(wholeAnswers{wholes: []impl.Whole{first}})
		sameWhole(t, "WholeOf", second, big.NewInt(int64(n)))
		sameWhole(t, "WholeOf", impl.WholeOf(n), big.NewInt(int64(n)))
	}
}
