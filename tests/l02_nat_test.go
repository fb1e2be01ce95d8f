package tests

import (
	"bytes"
	"fmt"
	"math"
	"math/big"
	"math/rand"
	"slices"
	"strings"
	"testing"

	"loop.example/g00382/impl"
)

// limbMark fills the spare room behind a number's limbs.
const limbMark = 4711

// natBits is how many bits the greatest number that may be told has.
const natBits = 16 * impl.MaxLimbs

// nat makes a number of a big one, whatever its length, with spare room behind it.
func nat(n *big.Int) impl.Nat {
	var list []int
	for left := new(big.Int).Set(n); left.Sign() > 0; left.Rsh(left, 16) {
		list = append(list, int(left.Uint64()&65535))
	}
	return roomyNat(list...)
}

func roomyNat(list ...int) impl.Nat {
	all := slices.Concat(list, slices.Repeat([]int{limbMark}, 5))
	return impl.Nat{L: all[:len(list)]}
}

func natInt(n int) impl.Nat { return nat(big.NewInt(int64(n))) }

// bigOf is the number by the document's words: each limb times Base to the power of its place.
func bigOf(n impl.Nat) *big.Int {
	sum := new(big.Int)
	for i, limb := range n.L {
		sum.Add(sum, new(big.Int).Lsh(big.NewInt(int64(limb)), uint(16*i)))
	}
	return sum
}

func two(k int) *big.Int { return new(big.Int).Lsh(big.NewInt(1), uint(k)) }

func plus(n *big.Int, k int64) *big.Int { return new(big.Int).Add(n, big.NewInt(k)) }

func mostNat() *big.Int { return plus(two(natBits), -1) }

func ten(k int) *big.Int { return new(big.Int).Exp(big.NewInt(10), big.NewInt(int64(k)), nil) }

// tellable says whether a true answer may be told.
func tellable(n *big.Int) bool { return n.Sign() >= 0 && n.BitLen() <= natBits }

// patterned has limbs that lie at the edges, since guesses of quotients go wrong there.
func patterned(source *rand.Rand, limbs int) *big.Int {
	edges := []int64{0, 0, 1, 2, 32767, 32768, 32769, 65534, 65535, 65535}
	n := new(big.Int)
	for i := range limbs {
		limb := edges[source.Intn(len(edges))]
		if source.Intn(4) == 0 {
			limb = source.Int63n(65536)
		}
		if i == 0 && limb == 0 {
			limb = 1
		}
		n.Add(n.Lsh(n, 16), big.NewInt(limb))
	}
	return n
}

// manyNats has edges and patterns of every length.
func manyNats() []*big.Int {
	var list []*big.Int
	for _, n := range []int64{0, 1, 2, 3, 4, 5, 7, 9, 10, 11, 99, 100, 255, 256, 32767, 32768, 65535, math.MaxInt64} {
		list = append(list, big.NewInt(n))
	}
	for _, k := range []int{16, 17, 31, 32, 48, 61, 62, 63, 64, 79, 160, 511, 512, 800, 1583, 1584, 1599} {
		list = append(list, plus(two(k), -1), two(k), plus(two(k), 1))
	}
	for _, k := range []int{4, 5, 9, 10, 30, 100, 200, 481} {
		list = append(list, plus(ten(k), -1), ten(k))
	}
	source := rand.New(rand.NewSource(2))
	for _, limbs := range []int{1, 2, 2, 3, 3, 4, 5, 8, 13, 25, 49, 50, 51, 75, 99, 100} {
		list = append(list, patterned(source, limbs))
	}
	return append(list, mostNat(), plus(mostNat(), -1))
}

// badNats has numbers that are not NatOk.
func badNats() []impl.Nat {
	long := slices.Repeat([]int{1}, impl.MaxLimbs+1)
	list := []impl.Nat{
		roomyNat(0), roomyNat(0, 0), roomyNat(5, 0), roomyNat(65535, 1, 0), roomyNat(-1), roomyNat(-1, 1), roomyNat(1, -1),
		roomyNat(65536), roomyNat(65536, 1), roomyNat(1, 65536), roomyNat(1, -65536, 1), roomyNat(3, 1<<40, 2),
		roomyNat(math.MaxInt), roomyNat(math.MinInt), roomyNat(math.MinInt, 1), roomyNat(1, math.MaxInt, 1),
		roomyNat(long...), roomyNat(slices.Repeat([]int{65535}, 5*impl.MaxLimbs)...), roomyNat(make([]int, impl.MaxLimbs)...),
		roomyNat(make([]int, impl.MaxLimbs+1)...),
	}
	return list
}

// answers is what a function of this chapter answers, told alike for all of them.
type answers struct {
	nats []impl.Nat
	text []byte
	n    int
	ok   bool
}

func (a answers) String() string {
	var parts []string
	for _, n := range a.nats {
		parts = append(parts, bigOf(n).String())
	}
	return fmt.Sprintf("%s %q %d %t", strings.Join(parts, " "), a.text, a.n, a.ok)
}

type natCall struct {
	name string
	// binary says that b matters, too.
	binary bool
	call   func(a impl.Nat, b impl.Nat, k int) answers
}

func natCalls() []natCall {
	one := func(n impl.Nat, ok bool) answers { return answers{nats: []impl.Nat{n}, ok: ok} }
	return []natCall{
		{"NatOk", false, func(a, b impl.Nat, k int) answers { return answers{ok: impl.NatOk(a)} }},
		{"NatInt", false, func(a, b impl.Nat, k int) answers { n, ok := impl.NatInt(a); return answers{n: n, ok: ok} }},
		{"NatCmp", true, func(a, b impl.Nat, k int) answers { return answers{n: impl.NatCmp(a, b)} }},
		{"NatAdd", true, func(a, b impl.Nat, k int) answers { return one(impl.NatAdd(a, b)) }},
		{"NatSub", true, func(a, b impl.Nat, k int) answers { return one(impl.NatSub(a, b)) }},
		{"NatMul", true, func(a, b impl.Nat, k int) answers { return one(impl.NatMul(a, b)) }},
		{"NatDiv", true, func(a, b impl.Nat, k int) answers {
			q, r, ok := impl.NatDiv(a, b)
			return answers{nats: []impl.Nat{q, r}, ok: ok}
		}},
		{"NatShl", false, func(a, b impl.Nat, k int) answers { return one(impl.NatShl(a, k)) }},
		{"NatShr", false, func(a, b impl.Nat, k int) answers { return one(impl.NatShr(a, k), false) }},
		{"NatBits", false, func(a, b impl.Nat, k int) answers { return answers{n: impl.NatBits(a)} }},
		{"NatBit", false, func(a, b impl.Nat, k int) answers { return answers{n: impl.NatBit(a, k)} }},
		{"NatTrail", false, func(a, b impl.Nat, k int) answers { return answers{n: impl.NatTrail(a)} }},
		{"NatGcd", true, func(a, b impl.Nat, k int) answers { return one(impl.NatGcd(a, b), false) }},
		{"NatRoot", false, func(a, b impl.Nat, k int) answers { return one(impl.NatRoot(a), false) }},
		{"NatPow", false, func(a, b impl.Nat, k int) answers { return one(impl.NatPow(a, k)) }},
		{"NatText", false, func(a, b impl.Nat, k int) answers { return answers{text: impl.NatText(a)} }},
	}
}

// sameNat fails unless got is want as its chapter wants it.
func sameNat(t *testing.T, name string, got impl.Nat, want *big.Int) {
	t.Helper()
	if !impl.NatOk(got) || bigOf(got).Cmp(want) != 0 {
		t.Fatalf("%s is %v, not %v", name, got, want)
	}
}

// sameTold fails unless got is want where that may be told, else the zero value and false.
func sameTold(t *testing.T, name string, got impl.Nat, ok bool, want *big.Int) {
	t.Helper()
	if ok != tellable(want) {
		t.Fatalf("%s: %t, of %v", name, ok, want)
	}
	if !ok {
		want = new(big.Int)
	}
	sameNat(t, name, got, want)
}

func TestNatConstants(t *testing.T) {
	if impl.MaxLimbs != 100 || impl.Base != 65536 {
		t.Fatal(impl.MaxLimbs, impl.Base)
	}
}

func TestNatOk(t *testing.T) {
	for _, n := range manyNats() {
		if !impl.NatOk(nat(n)) {
			t.Fatal(n)
		}
	}
	for _, n := range badNats() {
		if impl.NatOk(n) {
			t.Fatal(n)
		}
	}
	if !impl.NatOk(impl.Nat{}) || !impl.NatOk(impl.Nat{L: []int{}}) || !impl.NatOk(impl.Nat{L: []int{0, 0, 1}}) {
		t.Fatal("0, and noughts below a limb")
	}
	full := slices.Repeat([]int{65535}, impl.MaxLimbs)
	if !impl.NatOk(impl.Nat{L: full}) || impl.NatOk(impl.Nat{L: append(full, 1)}) {
		t.Fatal("MaxLimbs limbs, and one more")
	}
}

func TestNatOfAndInt(t *testing.T) {
	for _, n := range []int{0, 1, 9, 65535, 65536, 65537, 1 << 32, 1<<48 - 1, 1 << 48, 1<<62 - 2, 1<<62 - 1, 1 << 62, 1<<62 + 1, math.MaxInt - 1, math.MaxInt} {
		got, ok := impl.NatOf(n)
		if !ok {
			t.Fatal(n)
		}
		sameNat(t, fmt.Sprint("NatOf ", n), got, big.NewInt(int64(n)))
		back, ok := impl.NatInt(got)
		if ok != (n < 1<<62) || ok && back != n || !ok && back != 0 {
			t.Fatal(n, back, ok)
		}
	}
	for _, n := range []int{-1, -2, -65536, math.MinInt, math.MinInt + 1} {
		if got, ok := impl.NatOf(n); ok || len(got.L) != 0 {
			t.Fatal(n, got)
		}
	}
	for _, n := range manyNats() {
		got, ok := impl.NatInt(nat(n))
		if ok != (n.BitLen() <= 62) || ok && int64(got) != n.Int64() || !ok && got != 0 {
			t.Fatal(n, got, ok)
		}
	}
}

func TestNatPairs(t *testing.T) {
	for _, x := range manyNats() {
		for _, y := range manyNats() {
			a, b := nat(x), nat(y)
			if impl.NatCmp(a, b) != x.Cmp(y) || impl.NatCmp(b, a) != y.Cmp(x) {
				t.Fatalf("NatCmp of %v and %v", x, y)
			}
			name := fmt.Sprintf("of %v and %v", x, y)
			sum, ok := impl.NatAdd(a, b)
			sameTold(t, "NatAdd "+name, sum, ok, new(big.Int).Add(x, y))
			rest, ok := impl.NatSub(a, b)
			sameTold(t, "NatSub "+name, rest, ok, new(big.Int).Sub(x, y))
			product, ok := impl.NatMul(a, b)
			sameTold(t, "NatMul "+name, product, ok, new(big.Int).Mul(x, y))
			sameNat(t, "NatGcd "+name, impl.NatGcd(a, b), new(big.Int).GCD(nil, nil, x, y))
			sameQuotient(t, x, y)
		}
	}
}

// sameQuotient asks what the promise says, and what another reckoner answers.
func sameQuotient(t *testing.T, x *big.Int, y *big.Int) {
	t.Helper()
	q, r, ok := impl.NatDiv(nat(x), nat(y))
	if y.Sign() == 0 {
		if ok || len(q.L) != 0 || len(r.L) != 0 {
			t.Fatalf("%v divided by 0 is %v, %v", x, q, r)
		}
		return
	}
	wantQ, wantR := new(big.Int).QuoRem(x, y, new(big.Int))
	if !ok {
		t.Fatalf("%v divided by %v", x, y)
	}
	sameNat(t, "the quotient", q, wantQ)
	sameNat(t, "what is left", r, wantR)
	product, ok := impl.NatMul(q, nat(y))
	sum, is := impl.NatAdd(product, r)
	if !ok || !is || impl.NatCmp(sum, nat(x)) != 0 || impl.NatCmp(r, nat(y)) >= 0 {
		t.Fatalf("%v divided by %v is %v, %v", x, y, q, r)
	}
}

// Quotients with limbs of 0 and Base - 1 are where guesses of a limb go wrong by one or two.
func TestNatQuotientsAtTheEdges(t *testing.T) {
	source := rand.New(rand.NewSource(22))
	for range 20000 {
		by := patterned(source, 1+source.Intn(9))
		times := patterned(source, 1+source.Intn(9))
		rest := new(big.Int).Mod(patterned(source, 9), by)
		switch source.Intn(4) {
		case 0:
			rest = plus(by, -1)
		case 1:
			rest = new(big.Int)
		}
		x := new(big.Int).Mul(by, times)
		sameQuotient(t, x.Add(x, rest), by)
		sameQuotient(t, patterned(source, 1+source.Intn(12)), by)
	}
	// Every divisor of one limb, and every second limb under a highest one of few bits.
	for by := range 65536 {
		sameQuotient(t, plus(two(64), int64(by)), big.NewInt(int64(by)))
		sameQuotient(t, plus(two(64), -1), big.NewInt(int64(65536+by)))
	}
}

func TestNatQuotientsOfLongNumbers(t *testing.T) {
	full := mostNat()
	for limbs := 1; limbs <= impl.MaxLimbs; limbs++ {
		by := two(16*limbs - 16)
		for _, y := range []*big.Int{by, plus(by, 1), plus(two(16*limbs), -1), two(16*limbs - 1), new(big.Int).Rsh(full, uint(natBits-16*limbs+3))} {
			sameQuotient(t, full, y)
			sameQuotient(t, plus(full, -1), y)
			sameQuotient(t, y, full)
			sameQuotient(t, y, y)
			sameQuotient(t, two(natBits-1), y)
		}
	}
}

func TestNatSumsInAnyOrder(t *testing.T) {
	source := rand.New(rand.NewSource(23))
	for range 500 {
		a, b, c := nat(patterned(source, 1+source.Intn(30))), nat(patterned(source, 1+source.Intn(30))), nat(patterned(source, 1+source.Intn(30)))
		ab, _ := impl.NatAdd(a, b)
		ba, _ := impl.NatAdd(b, a)
		bc, _ := impl.NatAdd(b, c)
		left, _ := impl.NatAdd(ab, c)
		right, _ := impl.NatAdd(a, bc)
		if !slices.Equal(ab.L, ba.L) || !slices.Equal(left.L, right.L) || len(left.L) == 0 {
			t.Fatal(a, b, c)
		}
		back, ok := impl.NatSub(ab, b)
		if !ok || !slices.Equal(back.L, a.L) {
			t.Fatal(a, b)
		}
		xy, _ := impl.NatMul(a, b)
		yx, _ := impl.NatMul(b, a)
		yz, _ := impl.NatMul(b, c)
		left, _ = impl.NatMul(xy, c)
		right, _ = impl.NatMul(a, yz)
		if !slices.Equal(xy.L, yx.L) || !slices.Equal(left.L, right.L) || len(left.L) == 0 {
			t.Fatal(a, b, c)
		}
		xz, _ := impl.NatMul(a, c)
		parts, _ := impl.NatAdd(xz, yz)
		whole, _ := impl.NatMul(ab, c)
		if !slices.Equal(parts.L, whole.L) {
			t.Fatal(a, b, c)
		}
	}
}

func TestNatCarriesThroughAllLimbs(t *testing.T) {
	for limbs := 1; limbs < impl.MaxLimbs; limbs++ {
		full, next := nat(plus(two(16*limbs), -1)), nat(two(16*limbs))
		sum, ok := impl.NatAdd(full, natInt(1))
		if !ok || !slices.Equal(sum.L, next.L) {
			t.Fatal(limbs, sum)
		}
		sum, ok = impl.NatAdd(natInt(1), full)
		if !ok || !slices.Equal(sum.L, next.L) {
			t.Fatal(limbs, sum)
		}
		rest, ok := impl.NatSub(next, natInt(1))
		if !ok || !slices.Equal(rest.L, full.L) {
			t.Fatal(limbs, rest)
		}
		rest, ok = impl.NatSub(next, full)
		if !ok || !slices.Equal(rest.L, []int{1}) {
			t.Fatal(limbs, rest)
		}
	}
}

func TestNatMayNotBeTold(t *testing.T) {
	most, one := nat(mostNat()), natInt(1)
	refused := func(name string, got impl.Nat, ok bool) {
		t.Helper()
		if ok || len(got.L) != 0 {
			t.Fatal(name, got)
		}
	}
	got, ok := impl.NatAdd(most, one)
	refused("NatAdd", got, ok)
	got, ok = impl.NatAdd(one, most)
	refused("NatAdd", got, ok)
	got, ok = impl.NatMul(nat(two(800)), nat(two(800)))
	refused("NatMul", got, ok)
	got, ok = impl.NatMul(most, natInt(2))
	refused("NatMul", got, ok)
	got, ok = impl.NatShl(one, natBits)
	refused("NatShl", got, ok)
	got, ok = impl.NatShl(most, 1)
	refused("NatShl", got, ok)
	got, ok = impl.NatPow(natInt(2), natBits)
	refused("NatPow", got, ok)
	got, ok = impl.NatPow(nat(two(160)), 10)
	refused("NatPow", got, ok)
	got, ok = impl.NatSub(natInt(3), natInt(4))
	refused("NatSub", got, ok)

	got, ok = impl.NatAdd(nat(plus(mostNat(), -1)), one)
	sameTold(t, "NatAdd", got, ok, mostNat())
	got, ok = impl.NatMul(nat(two(800)), nat(plus(two(800), -1)))
	sameTold(t, "NatMul", got, ok, new(big.Int).Sub(two(1600), two(800)))
	got, ok = impl.NatShl(one, natBits-1)
	sameTold(t, "NatShl", got, ok, two(natBits-1))
	got, ok = impl.NatPow(natInt(2), natBits-1)
	sameTold(t, "NatPow", got, ok, two(natBits-1))
	got, ok = impl.NatPow(nat(plus(two(160), -1)), 10)
	sameTold(t, "NatPow", got, ok, new(big.Int).Exp(plus(two(160), -1), big.NewInt(10), nil))
}

// places has shifts and places of bits, with those that are not in the number, and those that are none.
func places() []int {
	list := []int{math.MinInt, math.MinInt + 1, -1601, -17, -16, -1, natBits - 1, natBits, natBits + 1, natBits + 16, 1 << 20, 1 << 40, math.MaxInt - 1, math.MaxInt}
	for k := range 70 {
		list = append(list, k)
	}
	for k := 100; k < natBits; k += 61 {
		list = append(list, k)
	}
	return list
}

func TestNatShifts(t *testing.T) {
	for _, x := range manyNats() {
		a := nat(x)
		for _, k := range places() {
			name := fmt.Sprintf("%v by %d", x, k)
			up, ok := impl.NatShl(a, k)
			if k < 0 || k > natBits && x.Sign() > 0 {
				if ok || len(up.L) != 0 {
					t.Fatal(name, up, ok)
				}
			} else {
				sameTold(t, "NatShl of "+name, up, ok, new(big.Int).Lsh(x, uint(min(k, natBits))))
			}
			down := impl.NatShr(a, k)
			if k < 0 {
				sameNat(t, "NatShr of "+name, down, new(big.Int))
			} else {
				sameNat(t, "NatShr of "+name, down, new(big.Int).Rsh(x, uint(min(k, natBits))))
			}
			shiftsAndPowers(t, x, k)
		}
	}
}

func shiftsAndPowers(t *testing.T, x *big.Int, k int) {
	t.Helper()
	power, ok := impl.NatPow(natInt(2), k)
	if !ok {
		return
	}
	up, ok := impl.NatShl(nat(x), k)
	product, is := impl.NatMul(nat(x), power)
	if ok != is || !slices.Equal(up.L, product.L) {
		t.Fatalf("%v times 2^%d", x, k)
	}
	quotient, _, _ := impl.NatDiv(nat(x), power)
	if !slices.Equal(quotient.L, impl.NatShr(nat(x), k).L) {
		t.Fatalf("%v by 2^%d", x, k)
	}
}

func TestNatShiftOfNought(t *testing.T) {
	for _, k := range places() {
		got, ok := impl.NatShl(impl.Nat{}, k)
		if ok != (k >= 0) || len(got.L) != 0 {
			t.Fatal(k, got, ok)
		}
	}
	one := natInt(1)
	if got, ok := impl.NatShl(one, natBits); ok || len(got.L) != 0 {
		t.Fatal(got)
	}
}

func TestNatBits(t *testing.T) {
	for _, x := range manyNats() {
		a := nat(x)
		if impl.NatBits(a) != x.BitLen() || impl.NatTrail(a) != int(x.TrailingZeroBits()) {
			t.Fatal(x, impl.NatBits(a), impl.NatTrail(a))
		}
		for _, i := range places() {
			want := 0
			if i >= 0 {
				want = int(x.Bit(min(i, natBits)))
			}
			if got := impl.NatBit(a, i); got != want {
				t.Fatalf("bit %d of %v is %d", i, x, got)
			}
		}
		for i := range natBits + 20 {
			if low := impl.NatShr(a, i).L; len(low) > 0 && low[0]%2 != impl.NatBit(a, i) || len(low) == 0 && impl.NatBit(a, i) != 0 {
				t.Fatalf("bit %d of %v", i, x)
			}
		}
	}
	for k := range natBits {
		a := nat(two(k))
		if impl.NatBits(a) != k+1 || impl.NatTrail(a) != k || impl.NatBit(a, k) != 1 {
			t.Fatal(k)
		}
		if k > 0 && impl.NatTrail(nat(plus(two(k), 1))) != 0 {
			t.Fatal(k)
		}
	}
}

func TestNatGcd(t *testing.T) {
	rows := [][3]int{{0, 0, 0}, {0, 7, 7}, {7, 0, 7}, {1, 0, 1}, {84, 36, 12}, {36, 84, 12}, {65536, 6, 2}, {17, 13, 1}, {65535, 65535, 65535}}
	for _, row := range rows {
		sameNat(t, fmt.Sprint(row), impl.NatGcd(natInt(row[0]), natInt(row[1])), big.NewInt(int64(row[2])))
	}
	source := rand.New(rand.NewSource(24))
	for range 300 {
		g := patterned(source, 1+source.Intn(20))
		x := new(big.Int).Mul(g, patterned(source, 1+source.Intn(40)))
		y := new(big.Int).Mul(g, patterned(source, 1+source.Intn(40)))
		got := impl.NatGcd(nat(x), nat(y))
		sameNat(t, "NatGcd", got, new(big.Int).GCD(nil, nil, x, y))
		_, restX, _ := impl.NatDiv(nat(x), got)
		_, restY, _ := impl.NatDiv(nat(y), got)
		_, restG, ok := impl.NatDiv(got, nat(g))
		if !ok || len(restX.L)+len(restY.L)+len(restG.L) != 0 {
			t.Fatal(x, y, got)
		}
	}
	// Two that follow each other in this row need the most steps.
	a, b := big.NewInt(1), big.NewInt(1)
	for b.BitLen() < natBits {
		a, b = b, new(big.Int).Add(a, b)
	}
	sameNat(t, "NatGcd", impl.NatGcd(nat(b), nat(a)), big.NewInt(1))
	sameNat(t, "NatGcd", impl.NatGcd(nat(a), nat(b)), big.NewInt(1))
}

func sameRoot(t *testing.T, x *big.Int) {
	t.Helper()
	root := impl.NatRoot(nat(x))
	sameNat(t, fmt.Sprint("the root of ", x), root, new(big.Int).Sqrt(x))
	next := plus(bigOf(root), 1)
	if square, ok := impl.NatMul(root, root); !ok || impl.NatCmp(square, nat(x)) > 0 || next.Mul(next, next).Cmp(x) <= 0 {
		t.Fatalf("the root of %v is %v", x, root)
	}
}

func TestNatRoots(t *testing.T) {
	for n := range 70000 {
		sameRoot(t, big.NewInt(int64(n)))
	}
	for _, x := range manyNats() {
		sameRoot(t, x)
		square := new(big.Int).Mul(x, x)
		for _, off := range []int64{-2, -1, 0, 1, 2} {
			if near := plus(square, off); tellable(near) {
				sameRoot(t, near)
			}
		}
	}
	for k := range natBits {
		sameRoot(t, two(k))
		sameRoot(t, plus(two(k), -1))
		sameRoot(t, plus(two(k), 1))
	}
}

func TestNatPowers(t *testing.T) {
	ks := []int{math.MinInt, -1, 0, 1, 2, 3, 4, 5, 7, 8, 9, 15, 16, 31, 32, 33, 63, 64, 99, 100, 101, 127, 533, 534, 800, 801,
		1023, 1024, natBits - 2, natBits - 1, natBits, natBits + 1, natBits + 2, 1 << 40, math.MaxInt}
	for _, x := range manyNats() {
		for _, k := range ks {
			got, ok := impl.NatPow(nat(x), k)
			if k < 0 || k > natBits {
				if ok || len(got.L) != 0 {
					t.Fatal(x, k, got)
				}
				continue
			}
			sameTold(t, fmt.Sprintf("%v to the power of %d", x, k), got, ok, boundedPower(x, k))
		}
	}
}

// boundedPower stops where a power is too great to be told anyhow.
func boundedPower(x *big.Int, k int) *big.Int {
	power := big.NewInt(1)
	for range k {
		power.Mul(power, x)
		if !tellable(power) {
			return power
		}
	}
	return power
}

func TestNatPowersAreProducts(t *testing.T) {
	for _, n := range []int{0, 1, 2, 3, 10, 65535, 65536} {
		power, ok := impl.NatPow(natInt(n), 0)
		sameTold(t, "the power of 0", power, ok, big.NewInt(1))
		for k := 1; k <= natBits; k++ {
			product, is := impl.NatMul(power, natInt(n))
			power, ok = impl.NatPow(natInt(n), k)
			if ok != is || !slices.Equal(power.L, product.L) {
				t.Fatalf("%d to the power of %d", n, k)
			}
			if !ok {
				break
			}
		}
	}
	for _, n := range []int{0, 1} {
		got, ok := impl.NatPow(natInt(n), natBits)
		sameTold(t, "the greatest power", got, ok, big.NewInt(int64(n)))
	}
}

func TestNatTexts(t *testing.T) {
	for _, x := range manyNats() {
		text := impl.NatText(nat(x))
		if string(text) != x.String() {
			t.Fatalf("%v is told as %s", x, text)
		}
		back, ok := impl.NatRead(text)
		if len(text) > impl.MaxText {
			if ok || len(back.L) != 0 {
				t.Fatal(x, back)
			}
			continue
		}
		sameTold(t, "NatRead of "+string(text), back, ok, x)
	}
	if len(impl.NatText(nat(mostNat()))) != 482 {
		t.Fatal("the greatest number")
	}
	for n := range 100100 {
		if text := string(impl.NatText(natInt(n))); text != fmt.Sprint(n) {
			t.Fatal(n, text)
		}
	}
}

func TestNatReadOfLongTexts(t *testing.T) {
	for _, k := range []int{impl.MaxText - 1, impl.MaxText, impl.MaxText + 1, impl.MaxText + 2, 1000, 100000} {
		for _, text := range []string{strings.Repeat("9", k), "1" + strings.Repeat("0", k-1), strings.Repeat("1", k)} {
			got, ok := impl.NatRead([]byte(text))
			if ok != (k <= impl.MaxText) {
				t.Fatal(k, ok)
			}
			want := new(big.Int)
			if ok {
				want.SetString(text, 10)
			}
			sameNat(t, "a long text", got, want)
		}
	}
}

func TestNatReadRefuses(t *testing.T) {
	texts := []string{"", "00", "01", "007", "000", "+1", "-1", "-0", "+", "-", " 1", "1 ", "1 2", " ", "\t1", "1\n", "a", "1a", "a1", "0x10", "1e3", "1.0", ".",
		"1_0", "1,0", "\u0663", "1\u0663", "\u06f3", "\u0969", "\uff13", "\u22121", "\x00", "1\x00", "/", ":", "1/", "1:", "\xb1", "\xff", "9\xb9",
		strings.Repeat("0", impl.MaxText), strings.Repeat("1", impl.MaxText-1) + "x"}
	for _, text := range texts {
		if got, ok := impl.NatRead([]byte(text)); ok || len(got.L) != 0 {
			t.Errorf("%q is read as %v", text, got)
		}
	}
	if got, ok := impl.NatRead(nil); ok || len(got.L) != 0 {
		t.Error("no text")
	}
	for c := range 256 {
		got, ok := impl.NatRead([]byte{'1', byte(c)})
		if ok != (c >= '0' && c <= '9') || ok && got.L[0] != 10+c-'0' {
			t.Error(c, got, ok)
		}
		got, ok = impl.NatRead([]byte{byte(c)})
		if ok != (c >= '0' && c <= '9') || len(got.L) > 1 || len(got.L) == 1 && got.L[0] != c-'0' || ok && c > '0' && len(got.L) == 0 {
			t.Error(c, got, ok)
		}
	}
}

func TestNatWrongNumbers(t *testing.T) {
	good := []impl.Nat{{}, natInt(1), natInt(7), nat(two(500)), nat(mostNat())}
	for _, c := range natCalls() {
		zero := answers{}.String()
		switch c.name {
		case "NatAdd", "NatSub", "NatMul", "NatShl", "NatShr", "NatGcd", "NatRoot", "NatPow":
			zero = answers{nats: make([]impl.Nat, 1)}.String()
		case "NatDiv":
			zero = answers{nats: make([]impl.Nat, 2)}.String()
		}
		for _, bad := range badNats() {
			for _, k := range []int{0, 1, 16, 40, natBits, -1} {
				for _, other := range append(good, bad) {
					if got := c.call(bad, other, k).String(); got != zero {
						t.Fatalf("%s of %v, %v, %d is %s", c.name, bad, other, k, got)
					}
					if !c.binary {
						continue
					}
					if got := c.call(other, bad, k).String(); got != zero {
						t.Fatalf("%s of %v, %v, %d is %s", c.name, other, bad, k, got)
					}
				}
			}
		}
	}
}

// scribble writes over all of an answer, its spare room too.
func scribble(a answers) {
	for _, n := range a.nats {
		full := n.L[:cap(n.L)]
		for i := range full {
			full[i] = 12345
		}
	}
	full := a.text[:cap(a.text)]
	for i := range full {
		full[i] = 'x'
	}
}

func sameLists(t *testing.T, name string, got impl.Nat, was []int) {
	t.Helper()
	if !slices.Equal(got.L[:cap(got.L)], was) {
		t.Fatalf("%s wrote into its argument: %v, not %v", name, got.L[:cap(got.L)], was)
	}
}

func TestNatMemory(t *testing.T) {
	numbers := []impl.Nat{roomyNat(), natInt(1), natInt(65535), natInt(65536), nat(two(100)), nat(plus(two(100), -1)), nat(ten(40)), nat(mostNat()),
		roomyNat(5, 0), roomyNat(-1, 3), roomyNat(slices.Repeat([]int{2}, impl.MaxLimbs+1)...)}
	for _, c := range natCalls() {
		for _, a := range numbers {
			for _, b := range numbers {
				for _, k := range []int{0, 1, 3, 16, 33, natBits} {
					wasA, wasB := slices.Clone(a.L[:cap(a.L)]), slices.Clone(b.L[:cap(b.L)])
					first := c.call(a, b, k)
					sameLists(t, c.name, a, wasA)
					sameLists(t, c.name, b, wasB)
					told := first.String()
					second := c.call(a, b, k)
					scribble(first)
					sameLists(t, c.name+" shares memory, and", a, wasA)
					sameLists(t, c.name+" shares memory, and", b, wasB)
					if second.String() != told {
						t.Fatalf("%s hands out what it keeps", c.name)
					}
					if third := c.call(a, b, k); third.String() != told {
						t.Fatalf("%s keeps something", c.name)
					}
				}
			}
		}
	}
}

func TestNatDivListsAreApart(t *testing.T) {
	for _, x := range manyNats() {
		for _, y := range []*big.Int{big.NewInt(1), big.NewInt(7), two(16), plus(two(80), 3), x} {
			if y.Sign() == 0 {
				continue
			}
			q, r, _ := impl.NatDiv(nat(x), nat(y))
			wantR := slices.Clone(r.L)
			scribble(answers{nats: []impl.Nat{q}})
			if !slices.Equal(r.L, wantR) {
				t.Fatal(x, y)
			}
			q, r, _ = impl.NatDiv(nat(x), nat(y))
			wantQ := slices.Clone(q.L)
			scribble(answers{nats: []impl.Nat{r}})
			if !slices.Equal(q.L, wantQ) {
				t.Fatal(x, y)
			}
		}
	}
}

// One list may be handed in for both arguments, or lie across the other.
func TestNatArgumentsThatShare(t *testing.T) {
	all := []int{65535, 7, 65535, 1, 65535, 65535, 9}
	for _, c := range natCalls() {
		for i := range len(all) {
			for j := i; j < len(all); j++ {
				a, b := impl.Nat{L: all[i : j+1]}, impl.Nat{L: all[j:]}
				want := c.call(roomyNat(a.L...), roomyNat(b.L...), 5)
				if got := c.call(a, b, 5); got.String() != want.String() {
					t.Fatalf("%s of lists that share: %s, not %s", c.name, got, want)
				}
				want = c.call(roomyNat(a.L...), roomyNat(a.L...), 5)
				if got := c.call(a, a, 5); got.String() != want.String() {
					t.Fatalf("%s of one list: %s, not %s", c.name, got, want)
				}
			}
		}
	}
	if !slices.Equal(all, []int{65535, 7, 65535, 1, 65535, 65535, 9}) {
		t.Fatal(all)
	}
}

func TestNatReadMemory(t *testing.T) {
	for _, text := range []string{"0", "7", "65536", strings.Repeat("8", impl.MaxText), "07", "", "1x"} {
		was := []byte(text)
		b := roomy(was)
		got, ok := impl.NatRead(b)
		untouched(t, "NatRead", b, was)
		again, _ := impl.NatRead(b)
		scribble(answers{nats: []impl.Nat{got}})
		if ok && !bytes.Equal(impl.NatText(again), was) {
			t.Fatal(text, again)
		}
	}
	// What lies behind the length would be read as more digits.
	long := []byte("123456")
	if got, ok := impl.NatRead(long[:3]); !ok || got.L[0] != 123 {
		t.Fatal(got)
	}
	first, _ := impl.NatOf(123456789)
	second, _ := impl.NatOf(123456789)
	scribble(answers{nats: []impl.Nat{first}})
	sameNat(t, "NatOf", second, big.NewInt(123456789))
}
