package tests

import (
	"fmt"
	"math"
	"math/big"
	"math/rand"
	"slices"
	"strings"
	"testing"

	"loop.example/g00382/impl"
)

// odd takes the powers of two out of n times 2^e.
func odd(n *big.Int, e int) (*big.Int, int) {
	if n.Sign() == 0 {
		return n, 0
	}
	noughts := n.TrailingZeroBits()
	return new(big.Int).Rsh(n, noughts), e + int(noughts)
}

// dy is n times 2^e, written as its chapter wants it, whether it may be told or not, with spare room behind its limbs.
func dy(n *big.Int, e int) impl.Dy {
	m, e := odd(n, e)
	return impl.Dy{M: whole(m), E: e}
}

func dyInt(n int, e int) impl.Dy { return dy(big.NewInt(int64(n)), e) }

// dyTellable says whether n times 2^e may be told.
func dyTellable(n *big.Int, e int) bool {
	m, e := odd(n, e)
	return m.BitLen() <= natBits && e >= -impl.MaxE && e <= impl.MaxE
}

// scaled is the number times 2^MaxE, which is whole.
func scaled(d impl.Dy) *big.Int {
	return new(big.Int).Lsh(bigOfWhole(d.M), uint(d.E+impl.MaxE))
}

// sameDy fails unless got is n times 2^e as its chapter wants it.
func sameDy(t *testing.T, name string, got impl.Dy, n *big.Int, e int) {
	t.Helper()
	m, e := odd(n, e)
	if !impl.DyOk(got) || got.E != e {
		t.Fatalf("%s is %v, not %v times 2^%d", name, got, m, e)
	}
	sameWhole(t, name, got.M, m)
}

// sameDyTold fails unless got is n times 2^e where that may be told, else the zero value and false.
func sameDyTold(t *testing.T, name string, got impl.Dy, ok bool, n *big.Int, e int) {
	t.Helper()
	if ok != dyTellable(n, e) {
		t.Fatalf("%s: %t, of %v times 2^%d", name, ok, n, e)
	}
	if !ok {
		n = new(big.Int)
	}
	sameDy(t, name, got, n, e)
}

func refusedDy(t *testing.T, name string, got impl.Dy, ok bool) {
	t.Helper()
	if ok || got.M.Neg || len(got.M.A.L) != 0 || got.E != 0 {
		t.Fatal(name, got, ok)
	}
}

// manyDys has 0, and odd numbers of many lengths and both signs beside powers of two of both signs.
func manyDys() []impl.Dy {
	source := rand.New(rand.NewSource(4))
	sizes := []*big.Int{big.NewInt(1), big.NewInt(1), big.NewInt(3), big.NewInt(5), big.NewInt(65535), big.NewInt(65537), plus(two(800), 1),
		plus(two(800), -1), plus(two(natBits-1), 1), mostNat(), plus(mostNat(), -2)}
	for _, limbs := range []int{1, 2, 5, 50, 100} {
		n := patterned(source, limbs)
		sizes = append(sizes, n.SetBit(n, 0, 1))
	}
	powers := []int{-impl.MaxE, -impl.MaxE + 1, -1600, -101, -100, -17, -16, -2, -1, 0, 1, 2, 15, 16, 99, 1000, 1001, 1599, 1600, impl.MaxE - 1, impl.MaxE}
	list := []impl.Dy{{}}
	for i, n := range sizes {
		for j, e := range powers {
			if (i+2*j)%3 == 0 {
				list = append(list, dy(n, e), dy(minus(n), powers[(j+i)%len(powers)]))
			}
		}
	}
	return list
}

// someDy is an odd number of some limbs beside some power of two, of either sign; it is 0 now and then.
func someDy(source *rand.Rand, limbs int, far int) impl.Dy {
	if source.Intn(40) == 0 {
		return impl.Dy{}
	}
	n := patterned(source, 1+source.Intn(limbs))
	if source.Intn(2) == 0 {
		n = minus(n)
	}
	return dy(n, source.Intn(2*far+1)-far)
}

// badDys has numbers that are not DyOk.
func badDys() []impl.Dy {
	var list []impl.Dy
	for _, e := range []int{0, 1, -1, 7, -100, -impl.MaxE, impl.MaxE} {
		for _, n := range []*big.Int{big.NewInt(2), big.NewInt(-2), big.NewInt(65536), big.NewInt(-6), two(natBits - 1), plus(mostNat(), -1)} {
			list = append(list, impl.Dy{M: whole(n), E: e})
		}
	}
	for _, e := range []int{1, -1, 2, -impl.MaxE, impl.MaxE, impl.MaxE + 1, math.MaxInt, math.MinInt} {
		list = append(list, impl.Dy{E: e}, impl.Dy{M: impl.Whole{A: roomyNat()}, E: e})
	}
	for _, e := range []int{impl.MaxE + 1, -impl.MaxE - 1, 2 * impl.MaxE, 4 * impl.MaxE, -4 * impl.MaxE, 1 << 32, -1 << 32, math.MaxInt, math.MinInt} {
		list = append(list, impl.Dy{M: wholeInt(1), E: e}, impl.Dy{M: wholeInt(-3), E: e}, impl.Dy{M: whole(mostNat()), E: e})
	}
	for _, m := range badWholes() {
		list = append(list, impl.Dy{M: m}, impl.Dy{M: m, E: 1}, impl.Dy{M: m, E: -2})
	}
	return list
}

// pick is the rounded one of two whole numbers, low and the one above it, between which the true one lies.
// middle is -1, 0, 1: the true one is below, at, above the middle of the two.
func pick(low *big.Int, middle int, mode int) *big.Int {
	high := plus(low, 1)
	nearer, farther := low, high
	if low.Sign() < 0 {
		nearer, farther = high, low
	}
	switch {
	case mode == impl.RdZero:
		return nearer
	case mode == impl.RdUp:
		return high
	case mode == impl.RdDown || middle < 0:
		return low
	case middle > 0:
		return high
	case mode == impl.RdAway:
		return farther
	case low.Bit(0) == 0:
		return low
	}
	return high
}

// wantQuotient is the whole number to which x divided by y is rounded, and whether it is that.
func wantQuotient(x *big.Int, y *big.Int, mode int) (*big.Int, bool) {
	if y.Sign() < 0 {
		x, y = minus(x), minus(y)
	}
	low, rest := new(big.Int).DivMod(x, y, new(big.Int))
	if rest.Sign() == 0 {
		return low, true
	}
	return pick(low, new(big.Int).Lsh(rest, 1).Cmp(y), mode), false
}

// wantRound is how many times 2^low a is rounded to, and whether it is that.
func wantRound(a impl.Dy, low int, mode int) (*big.Int, bool) {
	return wantQuotient(scaled(a), two(low+impl.MaxE), mode)
}

func wantDiv(a impl.Dy, b impl.Dy, low int, mode int) *big.Int {
	by := scaled(b)
	x, y := scaled(a), by
	if low < 0 {
		x = x.Lsh(x, uint(-low))
	} else {
		y = y.Lsh(y, uint(low))
	}
	answer, _ := wantQuotient(x, y, mode)
	return answer
}

// wantRoot asks for the root of x divided by a square, 2^(2k), to be without fractions.
func wantRoot(a impl.Dy, low int, mode int) *big.Int {
	x := scaled(a)
	square := 2*low + impl.MaxE
	if square < 0 {
		x, square = x.Lsh(x, uint(-square)), 0
	}
	below := new(big.Int).Sqrt(new(big.Int).Rsh(x, uint(square)))
	if new(big.Int).Lsh(new(big.Int).Mul(below, below), uint(square)).Cmp(x) == 0 {
		return below
	}
	middle := plus(new(big.Int).Lsh(below, 1), 1)
	middle.Lsh(middle.Mul(middle, middle), uint(square))
	return pick(below, new(big.Int).Lsh(x, 2).Cmp(middle), mode)
}

func modes() []int {
	return []int{impl.RdEven, impl.RdZero, impl.RdUp, impl.RdDown, impl.RdAway}
}

func TestDyConstants(t *testing.T) {
	if impl.MaxE != 3000 || !slices.Equal(modes(), []int{0, 1, 2, 3, 4}) {
		t.Fatal(impl.MaxE, modes())
	}
}

func TestDyOk(t *testing.T) {
	for _, d := range manyDys() {
		if !impl.DyOk(d) {
			t.Fatal(d)
		}
	}
	for _, d := range badDys() {
		if impl.DyOk(d) {
			t.Fatal(d)
		}
	}
	if !impl.DyOk(impl.Dy{}) || !impl.DyOk(impl.Dy{M: impl.Whole{A: impl.Nat{L: []int{}}}}) {
		t.Fatal("0")
	}
	for _, e := range []int{-impl.MaxE, impl.MaxE} {
		if !impl.DyOk(impl.Dy{M: whole(mostNat()), E: e}) || !impl.DyOk(impl.Dy{M: wholeInt(-1), E: e}) {
			t.Fatal(e)
		}
	}
}

func TestDyOfAllPowers(t *testing.T) {
	sizes := []*big.Int{new(big.Int), big.NewInt(1), big.NewInt(-1), big.NewInt(2), big.NewInt(-12), two(15), two(16), two(17), two(natBits - 1),
		minus(two(natBits - 1)), new(big.Int).Mul(two(1000), big.NewInt(-7)), mostNat(), minus(plus(mostNat(), -1)), new(big.Int).Lsh(plus(two(100), 1), 1499)}
	for _, n := range sizes {
		for e := -4*impl.MaxE - 2; e <= 4*impl.MaxE+2; e++ {
			got, ok := impl.DyOf(whole(n), e)
			if e < -4*impl.MaxE || e > 4*impl.MaxE {
				refusedDy(t, fmt.Sprint("DyOf ", e), got, ok)
				continue
			}
			sameDyTold(t, fmt.Sprint("DyOf ", e), got, ok, n, e)
		}
	}
	for _, n := range manyWholes() {
		for _, e := range []int{-4600, -4599, -3001, -3000, -2999, -1, 0, 1, 2999, 3000, 3001} {
			got, ok := impl.DyOf(whole(n), e)
			sameDyTold(t, "DyOf", got, ok, n, e)
		}
	}
}

func TestDyOfAtTheEdges(t *testing.T) {
	rows := []struct {
		n  *big.Int
		e  int
		ok bool
	}{
		{big.NewInt(1), 3000, true}, {big.NewInt(1), 3001, false}, {big.NewInt(2), 2999, true}, {big.NewInt(2), 3000, false},
		{big.NewInt(-3), -3000, true}, {big.NewInt(-3), -3001, false}, {big.NewInt(-2), -3001, true}, {big.NewInt(-2), -3002, false},
		{two(1599), -4599, true}, {two(1599), -4600, false}, {two(1599), 1401, true}, {two(1599), 1402, false},
		{new(big.Int), 12000, true}, {new(big.Int), 12001, false}, {new(big.Int), -12000, true}, {new(big.Int), -12001, false},
		{two(1599), 12000, false}, {two(1599), -12000, false}, {big.NewInt(1), math.MaxInt, false}, {big.NewInt(1), math.MinInt, false},
		{new(big.Int), math.MaxInt, false}, {new(big.Int), math.MinInt, false}, {big.NewInt(1 << 62), math.MaxInt, false},
	}
	for _, row := range rows {
		got, ok := impl.DyOf(whole(row.n), row.e)
		if ok != row.ok {
			t.Fatal(row)
		}
		if !ok {
			refusedDy(t, "DyOf", got, ok)
			continue
		}
		sameDy(t, "DyOf", got, row.n, row.e)
	}
	for _, m := range badWholes() {
		for _, e := range []int{0, 1, -1, impl.MaxE, -impl.MaxE, 4 * impl.MaxE, math.MaxInt} {
			got, ok := impl.DyOf(m, e)
			refusedDy(t, "DyOf", got, ok)
		}
	}
}

func TestDyPairs(t *testing.T) {
	for _, a := range manyDys() {
		for _, b := range manyDys() {
			x, y := scaled(a), scaled(b)
			if impl.DyCmp(a, b) != x.Cmp(y) || impl.DyCmp(b, a) != y.Cmp(x) {
				t.Fatalf("DyCmp of %v and %v", a, b)
			}
			name := fmt.Sprintf("of %v and %v", a, b)
			sum, ok := impl.DyAdd(a, b)
			sameDyTold(t, "DyAdd "+name, sum, ok, new(big.Int).Add(x, y), -impl.MaxE)
			rest, ok := impl.DySub(a, b)
			sameDyTold(t, "DySub "+name, rest, ok, new(big.Int).Sub(x, y), -impl.MaxE)
			product, ok := impl.DyMul(a, b)
			sameDyTold(t, "DyMul "+name, product, ok, new(big.Int).Mul(x, y), -2*impl.MaxE)
		}
	}
}

func TestDyAlone(t *testing.T) {
	shifts := []int{-12001, -12000, -6001, -6000, -5999, -3001, -3000, -1600, -100, -16, -1, 0, 1, 2, 17, 1599, 3000, 3001, 5999, 6000, 6001, 12000, 12001, math.MaxInt, math.MinInt}
	for _, a := range manyDys() {
		sameDy(t, "DyNeg", impl.DyNeg(a), minus(bigOfWhole(a.M)), a.E)
		sameTop(t, a)
		for _, k := range shifts {
			got, ok := impl.DyShift(a, k)
			if k < -4*impl.MaxE || k > 4*impl.MaxE {
				refusedDy(t, "DyShift", got, ok)
				continue
			}
			sameDyTold(t, fmt.Sprint("DyShift ", k), got, ok, bigOfWhole(a.M), a.E+k)
		}
	}
}

// sameTop asks for 2^top above the number's size, and its half not above it.
func sameTop(t *testing.T, a impl.Dy) {
	t.Helper()
	top := impl.DyTop(a)
	if len(a.M.A.L) == 0 {
		if top != 0 {
			t.Fatal("DyTop of 0 is", top)
		}
		return
	}
	size := new(big.Int).Abs(scaled(a))
	if size.Cmp(two(top+impl.MaxE)) >= 0 || size.Cmp(two(top-1+impl.MaxE)) < 0 {
		t.Fatalf("DyTop of %v is %d", a, top)
	}
}

func TestDyTopLiterals(t *testing.T) {
	rows := []struct{ n, e, top int }{{0, 0, 0}, {1, 0, 1}, {-1, 0, 1}, {1, -1, 0}, {1, -2, -1}, {3, -1, 1}, {-3, -2, 0}, {65535, 0, 16}, {65537, 0, 17}, {65537, -17, 0},
		{1, -3000, -2999}, {1, 3000, 3001}, {7, 0, 3}, {1, 3, 4}}
	for _, row := range rows {
		if top := impl.DyTop(dyInt(row.n, row.e)); top != row.top {
			t.Fatal(row, top)
		}
	}
	if impl.DyTop(dy(mostNat(), impl.MaxE)) != 4600 {
		t.Fatal("the greatest number")
	}
}

func equalDys(a impl.Dy, b impl.Dy) bool {
	return a.E == b.E && a.M.Neg == b.M.Neg && slices.Equal(a.M.A.L, b.M.A.L)
}

func TestDySumsInAnyOrder(t *testing.T) {
	source := rand.New(rand.NewSource(41))
	for range 1500 {
		a, b, c := someDy(source, 20, 200), someDy(source, 20, 200), someDy(source, 20, 200)
		ab, _ := impl.DyAdd(a, b)
		ba, _ := impl.DyAdd(b, a)
		bc, _ := impl.DyAdd(b, c)
		left, ok := impl.DyAdd(ab, c)
		right, is := impl.DyAdd(a, bc)
		if !ok || !is || !equalDys(ab, ba) || !equalDys(left, right) {
			t.Fatal(a, b, c)
		}
		rest, ok := impl.DySub(a, b)
		other, is := impl.DyAdd(a, impl.DyNeg(b))
		back, fine := impl.DySub(ab, b)
		if !ok || !is || !fine || !equalDys(rest, other) || !equalDys(back, a) {
			t.Fatal(a, b)
		}
		xy, _ := impl.DyMul(a, b)
		yx, _ := impl.DyMul(b, a)
		yz, _ := impl.DyMul(b, c)
		left, ok = impl.DyMul(xy, c)
		right, is = impl.DyMul(a, yz)
		if !ok || !is || !equalDys(xy, yx) || !equalDys(left, right) {
			t.Fatal(a, b, c)
		}
		xz, _ := impl.DyMul(a, c)
		parts, ok := impl.DyAdd(xz, yz)
		product, is := impl.DyMul(ab, c)
		if !ok || !is || !equalDys(parts, product) {
			t.Fatal(a, b, c)
		}
	}
}

func TestDyOrder(t *testing.T) {
	source := rand.New(rand.NewSource(42))
	for range 3000 {
		a, b := someDy(source, 20, 400), someDy(source, 20, 400)
		if source.Intn(3) == 0 {
			// Next to one another, so that their highest bits don't tell which is greater.
			b, _ = impl.DyAdd(a, dyInt(source.Intn(3)-1, -500))
		}
		rest, ok := impl.DySub(a, b)
		if !ok {
			t.Fatal(a, b)
		}
		order := bigOfWhole(rest.M).Sign()
		for _, k := range []int{0, 1, -1, 16, 1700, -1700} {
			x, ok := impl.DyShift(a, k)
			y, is := impl.DyShift(b, k)
			if !ok || !is || impl.DyCmp(x, y) != order || impl.DyCmp(y, x) != -order || impl.DyCmp(impl.DyNeg(x), impl.DyNeg(y)) != -order {
				t.Fatal(a, b, k)
			}
			if impl.DyCmp(x, x) != 0 || impl.DyCmp(y, y) != 0 {
				t.Fatal(x, y)
			}
		}
	}
}

func TestDyNoughtInEveryPlace(t *testing.T) {
	noughts := []impl.Dy{{}, {M: impl.Whole{A: impl.Nat{L: []int{}}}}, {M: impl.Whole{A: roomyNat()}}}
	for _, zero := range noughts {
		sameDy(t, "DyNeg", impl.DyNeg(zero), new(big.Int), 0)
		for _, k := range []int{-12000, -3001, -1, 0, 1, 3001, 12000} {
			got, ok := impl.DyShift(zero, k)
			sameDyTold(t, "DyShift", got, ok, new(big.Int), 0)
		}
		if text, ok := impl.DyText(zero); string(text) != "0" || !ok {
			t.Fatalf("%q", text)
		}
		for _, a := range manyDys() {
			got, ok := impl.DyAdd(a, zero)
			sameDyTold(t, "DyAdd", got, ok, bigOfWhole(a.M), a.E)
			got, ok = impl.DyAdd(zero, a)
			sameDyTold(t, "DyAdd", got, ok, bigOfWhole(a.M), a.E)
			got, ok = impl.DySub(a, zero)
			sameDyTold(t, "DySub", got, ok, bigOfWhole(a.M), a.E)
			got, ok = impl.DySub(zero, a)
			sameDyTold(t, "DySub", got, ok, minus(bigOfWhole(a.M)), a.E)
			got, ok = impl.DySub(a, a)
			sameDyTold(t, "DySub", got, ok, new(big.Int), 0)
			got, ok = impl.DyAdd(impl.DyNeg(a), a)
			sameDyTold(t, "DyAdd", got, ok, new(big.Int), 0)
			got, ok = impl.DyMul(a, zero)
			sameDyTold(t, "DyMul", got, ok, new(big.Int), 0)
			got, ok = impl.DyMul(zero, a)
			sameDyTold(t, "DyMul", got, ok, new(big.Int), 0)
			if sign := bigOfWhole(a.M).Sign(); impl.DyCmp(a, zero) != sign || impl.DyCmp(zero, a) != -sign {
				t.Fatal(a)
			}
		}
	}
}

func TestDyNoughtIsRounded(t *testing.T) {
	for _, zero := range []impl.Dy{{}, {M: impl.Whole{A: roomyNat()}}} {
		for _, mode := range modes() {
			for _, low := range []int{-3000, -1, 0, 1, 3000} {
				got, exact, ok := impl.DyRound(zero, low, mode)
				sameDyTold(t, "DyRound", got, ok, new(big.Int), 0)
				if !exact {
					t.Fatal("0 is a multiple")
				}
				got, ok = impl.DyRoot(zero, low, mode)
				sameDyTold(t, "DyRoot", got, ok, new(big.Int), 0)
				for _, b := range manyDys() {
					got, ok = impl.DyDiv(zero, b, low, mode)
					if len(b.M.A.L) == 0 {
						refusedDy(t, "0 divided by 0", got, ok)
						continue
					}
					sameDyTold(t, "DyDiv", got, ok, new(big.Int), 0)
					got, ok = impl.DyDiv(b, zero, low, mode)
					refusedDy(t, "divided by 0", got, ok)
				}
			}
		}
	}
}

func TestDyMayNotBeTold(t *testing.T) {
	for _, sign := range []int64{1, -1} {
		times := func(n *big.Int, e int) impl.Dy { return dy(new(big.Int).Mul(n, big.NewInt(sign)), e) }
		one := big.NewInt(1)
		pairs := []struct {
			name string
			call func(a, b impl.Dy) (impl.Dy, bool)
			a, b impl.Dy
			ok   bool
		}{
			{"2^1600 and 1", impl.DyAdd, times(one, 1600), times(one, 0), false},
			{"2^1599 and 1", impl.DyAdd, times(one, 1599), times(one, 0), true},
			{"2^1600 - 1 and 1", impl.DyAdd, times(mostNat(), 0), times(one, 0), true},
			{"2^1600 - 1 and 2", impl.DyAdd, times(mostNat(), 0), times(one, 1), false},
			{"2^1600 - 1 twice", impl.DyAdd, times(mostNat(), 0), times(mostNat(), 0), true},
			{"2^1600 - 1 and 2^1600", impl.DyAdd, times(mostNat(), 0), times(one, 1600), false},
			{"2^1600 - 1 without 2^1600", impl.DySub, times(mostNat(), 0), times(one, 1600), true},
			{"2^1600 - 1 and a half", impl.DyAdd, times(mostNat(), 0), times(one, -1), false},
			{"2^1600 - 1 without a half", impl.DySub, times(mostNat(), 0), times(one, -1), false},
			{"2^3000 twice", impl.DyAdd, times(one, 3000), times(one, 3000), false},
			{"2^3000 three times", impl.DyAdd, times(one, 3000), times(one, 2999), true},
			{"2^2999 twice", impl.DyAdd, times(one, 2999), times(one, 2999), true},
			{"3 and 1, times 2^3000", impl.DyAdd, times(big.NewInt(3), 3000), times(one, 3000), false},
			{"5 without 1, times 2^3000", impl.DySub, times(big.NewInt(5), 3000), times(one, 3000), false},
			{"1 without 2, times 2^2999", impl.DySub, times(one, 2999), times(one, 3000), true},
			{"the least and the greatest power", impl.DyAdd, times(one, 3000), times(one, -3000), false},
			{"2^-3000 twice", impl.DyAdd, times(one, -3000), times(one, -3000), true},
			{"2^-3000 without 2^-2999", impl.DySub, times(one, -3000), times(one, -2999), true},
			{"2^1500 squared", impl.DyMul, times(one, 1500), times(one, 1500), true},
			{"2^1500 times 2^1501", impl.DyMul, times(one, 1500), times(one, 1501), false},
			{"2^-1500 squared", impl.DyMul, times(one, -1500), times(one, -1500), true},
			{"2^-1500 times 2^-1501", impl.DyMul, times(one, -1500), times(one, -1501), false},
			{"2^800 + 1 times 2^800 - 1", impl.DyMul, times(plus(two(800), 1), 7), times(plus(two(800), -1), -9), true},
			{"2^800 + 1 squared", impl.DyMul, times(plus(two(800), 1), 0), times(plus(two(800), 1), 0), false},
			{"2^1600 - 1 times 3", impl.DyMul, times(mostNat(), 0), times(big.NewInt(3), 0), false},
			{"2^1600 - 1 times 2^1400", impl.DyMul, times(mostNat(), 1600), times(one, 1400), true},
			{"2^1600 - 1 times 2^1401", impl.DyMul, times(mostNat(), 1600), times(one, 1401), false},
		}
		for _, row := range pairs {
			got, ok := row.call(row.a, row.b)
			if ok != row.ok || !ok && !equalDys(got, impl.Dy{}) || ok && !impl.DyOk(got) {
				t.Fatal(row.name, got, ok)
			}
		}
	}
}

// sameRounded asks what the document's words make of it, and what the promise says.
func sameRounded(t *testing.T, a impl.Dy, low int, mode int) {
	t.Helper()
	got, exact, ok := impl.DyRound(a, low, mode)
	want, is := wantRound(a, low, mode)
	name := fmt.Sprintf("DyRound of %v, %d, %d", a, low, mode)
	sameDyTold(t, name, got, ok, want, low)
	if !ok {
		if exact {
			t.Fatal(name, "is exact, and may not be told")
		}
		return
	}
	if exact != is || exact != (impl.DyCmp(got, a) == 0) {
		t.Fatal(name, "is exact:", exact)
	}
	between(t, name, scaled(got), scaled(a), two(low+impl.MaxE), mode)
}

// between is the promise: the rounded one is less than a step off, and on the side, or so near, as its mode says.
func between(t *testing.T, name string, near *big.Int, x *big.Int, step *big.Int, mode int) {
	t.Helper()
	far := new(big.Int).Sub(near, x)
	if far.CmpAbs(step) >= 0 || new(big.Int).Mod(near, step).Sign() != 0 {
		t.Fatal(name, "is not next to it")
	}
	bad := false
	switch mode {
	case impl.RdDown:
		bad = far.Sign() > 0
	case impl.RdUp:
		bad = far.Sign() < 0
	case impl.RdZero:
		bad = near.CmpAbs(x) > 0
	default:
		bad = new(big.Int).Lsh(far, 1).CmpAbs(step) > 0
	}
	if bad {
		t.Fatal(name, "is rounded to the wrong side")
	}
}

func TestDyRoundAllModes(t *testing.T) {
	lows := []int{-3000, -2999, -1601, -1600, -101, -17, -16, -15, -1, 0, 1, 2, 15, 16, 17, 800, 1599, 1600, 1601, 2998, 2999, 3000}
	for _, a := range manyDys() {
		top := impl.DyTop(a)
		for _, low := range append([]int{a.E - 1, a.E, a.E + 1, a.E + 2, a.E + 16, top - 2, top - 1, top, top + 1, top + 2}, lows...) {
			if low < -impl.MaxE || low > impl.MaxE {
				continue
			}
			for _, mode := range modes() {
				sameRounded(t, a, low, mode)
			}
		}
	}
	source := rand.New(rand.NewSource(43))
	for range 3000 {
		a := someDy(source, 12, 100)
		for _, mode := range modes() {
			sameRounded(t, a, a.E+source.Intn(200), mode)
		}
	}
}

// Every number of sixteenths from -5 to 5, to wholes, halves, twos, fours: noughts, ties and powers of two are among them.
func TestDyRoundSmallOnes(t *testing.T) {
	for n := -80; n <= 80; n++ {
		for _, shift := range []int{-40, -4, 0, 9, 2900} {
			for low := range 9 {
				for _, mode := range modes() {
					sameRounded(t, dyInt(n, shift), low+shift, mode)
				}
			}
		}
	}
}

func TestDyRoundLiterals(t *testing.T) {
	rows := []struct {
		n, e, low int
		want      [5]int // in RdEven, RdZero, RdUp, RdDown, RdAway, times 2^low
		exact     bool
	}{
		{5, -1, 0, [5]int{2, 2, 3, 2, 3}, false}, {-5, -1, 0, [5]int{-2, -2, -2, -3, -3}, false},
		{7, -1, 0, [5]int{4, 3, 4, 3, 4}, false}, {-7, -1, 0, [5]int{-4, -3, -3, -4, -4}, false},
		{1, -1, 0, [5]int{0, 0, 1, 0, 1}, false}, {-1, -1, 0, [5]int{0, 0, 0, -1, -1}, false},
		{3, -1, 0, [5]int{2, 1, 2, 1, 2}, false}, {-3, -1, 0, [5]int{-2, -1, -1, -2, -2}, false},
		{9, -2, 0, [5]int{2, 2, 3, 2, 2}, false}, {11, -2, 0, [5]int{3, 2, 3, 2, 3}, false},
		{-9, -2, 0, [5]int{-2, -2, -2, -3, -2}, false}, {-11, -2, 0, [5]int{-3, -2, -2, -3, -3}, false},
		{1, -2, 0, [5]int{0, 0, 1, 0, 0}, false}, {-1, -2, 0, [5]int{0, 0, 0, -1, 0}, false},
		{3, -2, 0, [5]int{1, 0, 1, 0, 1}, false}, {-3, -2, 0, [5]int{-1, 0, 0, -1, -1}, false},
		{1, -3000, 3000, [5]int{0, 0, 1, 0, 0}, false}, {-1, -3000, 3000, [5]int{0, 0, 0, -1, 0}, false},
		{1, 2999, 3000, [5]int{0, 0, 1, 0, 1}, false}, {-1, 2999, 3000, [5]int{0, 0, 0, -1, -1}, false},
		{31, -1, 0, [5]int{16, 15, 16, 15, 16}, false}, {-31, -1, 0, [5]int{-16, -15, -15, -16, -16}, false},
		{255, 0, 4, [5]int{16, 15, 16, 15, 16}, false}, {6, 0, 1, [5]int{3, 3, 3, 3, 3}, true}, {-6, 0, 1, [5]int{-3, -3, -3, -3, -3}, true},
		{1, 0, -3, [5]int{8, 8, 8, 8, 8}, true}, {0, 0, 5, [5]int{0, 0, 0, 0, 0}, true}, {1, 3000, 3000, [5]int{1, 1, 1, 1, 1}, true},
		{-7, -3000, -3000, [5]int{-7, -7, -7, -7, -7}, true},
	}
	for _, row := range rows {
		for mode, want := range row.want {
			got, exact, ok := impl.DyRound(dyInt(row.n, row.e), row.low, mode)
			if !ok || exact != row.exact {
				t.Fatal(row, mode, exact, ok)
			}
			sameDy(t, fmt.Sprint("DyRound ", row.n, row.e, row.low, mode), got, big.NewInt(int64(want)), row.low)
		}
	}
}

// The middle of two multiples, with limbs of noughts and of ones between it and the last bit.
func TestDyRoundNextToTheMiddle(t *testing.T) {
	for _, below := range []int64{0, 1, 2, 3, 15, 16, 65535, 65536} {
		for _, far := range []int{1, 2, 15, 16, 17, 32, 100, 1500} {
			middle := new(big.Int).Lsh(big.NewInt(2*below+1), uint(far))
			for _, by := range []int64{-1, 0, 1} {
				n := plus(middle, by)
				for _, mode := range modes() {
					for _, low := range []int{-1000, 0, 1000} {
						sameRounded(t, dy(n, low-far-1), low, mode)
						sameRounded(t, dy(minus(n), low-far-1), low, mode)
					}
				}
			}
		}
	}
}

func TestDyRoundMayNotBeTold(t *testing.T) {
	rows := []struct {
		a    impl.Dy
		told string // a letter a mode: y or n
	}{
		{dyInt(3, 2999), "nynyn"}, {dyInt(-3, 2999), "nyynn"}, {dyInt(5, 2998), "yynyy"}, {dyInt(-5, 2998), "yyyny"},
		{dyInt(7, 2999), "nynyn"}, {dyInt(5, 2999), "nnyny"}, {dyInt(1, 2999), "yyyyy"}, {dyInt(1, 3000), "yyyyy"},
		{dy(mostNat(), 2999), "nynyn"}, {dy(minus(mostNat()), 2999), "nyynn"}, {dy(mostNat(), 3000), "yyyyy"},
	}
	for _, row := range rows {
		for mode, told := range row.told {
			got, exact, ok := impl.DyRound(row.a, impl.MaxE, mode)
			if ok != (told == 'y') {
				t.Fatal(row, mode, got, ok)
			}
			if !ok {
				refusedDy(t, "DyRound", got, ok || exact)
			}
			sameRounded(t, row.a, impl.MaxE, mode)
		}
	}
}

// wrongPlaces has lows and modes of which one is none.
func wrongPlaces() [][2]int {
	var list [][2]int
	for _, low := range []int{-3001, 3001, -6000, 6000, 1 << 32, -1 << 32, math.MaxInt, math.MinInt, math.MinInt + 1} {
		for _, mode := range modes() {
			list = append(list, [2]int{low, mode})
		}
	}
	for _, mode := range []int{-1, 5, 6, -5, 256, 1 << 32, -1 << 32, math.MaxInt, math.MinInt} {
		for _, low := range []int{-3000, -1, 0, 1, 3000, 3001} {
			list = append(list, [2]int{low, mode})
		}
	}
	return list
}

func TestDyWrongLowsAndModes(t *testing.T) {
	for _, place := range wrongPlaces() {
		low, mode := place[0], place[1]
		for _, a := range []impl.Dy{{}, dyInt(1, 0), dyInt(4, 0), dyInt(9, -3), dyInt(1, 3000), dyInt(1, -3000), dy(mostNat(), 0)} {
			got, exact, ok := impl.DyRound(a, low, mode)
			refusedDy(t, "DyRound", got, ok || exact)
			got, exact, ok = impl.DyRound(impl.DyNeg(a), low, mode)
			refusedDy(t, "DyRound", got, ok || exact)
			got, ok = impl.DyDiv(a, dyInt(3, 0), low, mode)
			refusedDy(t, "DyDiv", got, ok)
			got, ok = impl.DyDiv(a, dyInt(-1, 0), low, mode)
			refusedDy(t, "DyDiv", got, ok)
			got, ok = impl.DyRoot(a, low, mode)
			refusedDy(t, "DyRoot", got, ok)
		}
	}
}

// sameDivided asks what the document's words make of it, and what the promise says.
func sameDivided(t *testing.T, a impl.Dy, b impl.Dy, low int, mode int) {
	t.Helper()
	got, ok := impl.DyDiv(a, b, low, mode)
	name := fmt.Sprintf("DyDiv of %v, %v, %d, %d", a, b, low, mode)
	sameDyTold(t, name, got, ok, wantDiv(a, b, low, mode), low)
	if !ok {
		return
	}
	// All of it times the divisor's size, so that there are no fractions.
	by := scaled(b)
	x := new(big.Int).Lsh(scaled(a), impl.MaxE)
	if by.Sign() < 0 {
		x, by = minus(x), minus(by)
	}
	between(t, name, new(big.Int).Mul(scaled(got), by), x, new(big.Int).Lsh(by, uint(low+impl.MaxE)), mode)
}

func TestDyDivAllModes(t *testing.T) {
	list := manyDys()
	source := rand.New(rand.NewSource(44))
	for i, a := range list {
		for j, b := range list {
			if len(b.M.A.L) == 0 || (i+j)%5 != 0 {
				continue
			}
			near := impl.DyTop(a) - impl.DyTop(b)
			for _, low := range []int{near - 1601, near - 60, near - 1, near, near + 1, a.E - b.E, source.Intn(6001) - 3000} {
				if low < -impl.MaxE || low > impl.MaxE {
					continue
				}
				sameDivided(t, a, b, low, source.Intn(5))
			}
		}
	}
	for range 2000 {
		a, b := someDy(source, 12, 100), someDy(source, 6, 100)
		if len(b.M.A.L) == 0 {
			continue
		}
		for _, mode := range modes() {
			sameDivided(t, a, b, source.Intn(200)-150, mode)
		}
	}
}

func TestDyDivSmallOnes(t *testing.T) {
	for x := -24; x <= 24; x++ {
		for y := -12; y <= 12; y++ {
			for low := -3; low <= 3; low++ {
				for _, mode := range modes() {
					if y == 0 {
						got, ok := impl.DyDiv(dyInt(x, 0), dyInt(y, 0), low, mode)
						refusedDy(t, "divided by 0", got, ok)
						continue
					}
					sameDivided(t, dyInt(x, 0), dyInt(y, 0), low, mode)
					sameDivided(t, dyInt(x, 2000), dyInt(y, 2000), low, mode)
					sameDivided(t, dyInt(x, -1500), dyInt(y, 1400), low-2900, mode)
				}
			}
		}
	}
}

func TestDyDivLiterals(t *testing.T) {
	rows := []struct {
		x, y, low int
		want      [5]int
	}{
		{1, 3, 0, [5]int{0, 0, 1, 0, 0}}, {-1, 3, 0, [5]int{0, 0, 0, -1, 0}}, {1, -3, 0, [5]int{0, 0, 0, -1, 0}}, {-1, -3, 0, [5]int{0, 0, 1, 0, 0}},
		{2, 3, 0, [5]int{1, 0, 1, 0, 1}}, {-2, 3, 0, [5]int{-1, 0, 0, -1, -1}}, {6, 3, 0, [5]int{2, 2, 2, 2, 2}}, {-6, 3, 0, [5]int{-2, -2, -2, -2, -2}},
		{6, -3, 1, [5]int{-1, -1, -1, -1, -1}}, {7, 2, 0, [5]int{4, 3, 4, 3, 4}}, {5, 2, 0, [5]int{2, 2, 3, 2, 3}}, {5, -2, 0, [5]int{-2, -2, -2, -3, -3}},
		{15, 6, 0, [5]int{2, 2, 3, 2, 3}}, {-21, 6, 0, [5]int{-4, -3, -3, -4, -4}}, {1, 3, -4, [5]int{5, 5, 6, 5, 5}}, {100, 7, 3, [5]int{2, 1, 2, 1, 2}},
		{0, -5, 0, [5]int{0, 0, 0, 0, 0}},
	}
	for _, row := range rows {
		for mode, want := range row.want {
			got, ok := impl.DyDiv(dyInt(row.x, 0), dyInt(row.y, 0), row.low, mode)
			if !ok {
				t.Fatal(row, mode)
			}
			sameDy(t, fmt.Sprint("DyDiv ", row.x, row.y, row.low, mode), got, big.NewInt(int64(want)), row.low)
		}
	}
}

func TestDyDivMayNotBeTold(t *testing.T) {
	three := dyInt(3, 0)
	rows := []struct {
		name string
		a, b impl.Dy
		low  int
		told string // a letter a mode: y or n
	}{
		// A third of 2^1601 is cut off to 1600 bits; of 2^1602, to an odd number of 1601, or up to an even one.
		{"1600 bits", dyInt(1, 1601), three, 0, "yyyyy"}, {"1601 bits", dyInt(1, 1602), three, 0, "nnynn"},
		{"1601 bits, below 0", dyInt(-1, 1602), three, 0, "nnnyn"}, {"divisor below 0", dyInt(1, 1602), dyInt(-3, 0), 0, "nnnyn"},
		{"exact, one bit", dyInt(3, 3000), three, -3000, "yyyyy"}, {"far too many bits", dyInt(1, 3000), three, -3000, "nnnnn"},
		{"a power beyond MaxE", dyInt(1, 3000), dyInt(1, -1), 0, "nnnnn"}, {"MaxE itself", dyInt(1, 2999), dyInt(1, -1), 0, "yyyyy"},
		{"a power below -MaxE", dyInt(1, -3000), dyInt(1, 1), -3000, "yyyyy"}, {"rounds to 2^3001", dyInt(9, 3000), dyInt(5, 0), 3000, "nynyn"},
		{"rounds to -2^3001", dyInt(9, 3000), dyInt(-5, 0), 3000, "nyynn"}, {"all of MaxLimbs", dy(mostNat(), 0), dyInt(1, 0), 0, "yyyyy"},
		{"MaxLimbs and a third", dy(mostNat(), 0), dyInt(3, -2), -1, "yyyyy"},
	}
	for _, row := range rows {
		for mode, told := range row.told {
			got, ok := impl.DyDiv(row.a, row.b, row.low, mode)
			if ok != (told == 'y') {
				t.Fatal(row.name, mode, got, ok)
			}
			if !ok {
				refusedDy(t, row.name, got, ok)
			}
			sameDivided(t, row.a, row.b, row.low, mode)
		}
	}
}

// sameRooted asks what the document's words make of it, and what the promise says.
func sameRooted(t *testing.T, a impl.Dy, low int, mode int) {
	t.Helper()
	got, ok := impl.DyRoot(a, low, mode)
	name := fmt.Sprintf("DyRoot of %v, %d, %d", a, low, mode)
	want := wantRoot(a, low, mode)
	sameDyTold(t, name, got, ok, want, low)
	if !ok {
		return
	}
	// Squares of numbers at least 0 are in order as these are: a's size in steps of half a multiple, squared, is of 4 times it.
	x := new(big.Int).Lsh(scaled(a), uint(impl.MaxE+2))
	step := two(low + impl.MaxE)
	double := new(big.Int).Lsh(scaled(got), 1)
	square := func(n *big.Int) *big.Int {
		if n.Sign() < 0 {
			return big.NewInt(-1)
		}
		return new(big.Int).Mul(n, n)
	}
	below, above := new(big.Int), new(big.Int)
	switch mode {
	case impl.RdUp:
		below = below.Sub(double, step).Sub(below, step)
		above = double
	case impl.RdZero, impl.RdDown:
		below = double
		above = above.Add(double, step).Add(above, step)
	default:
		below.Sub(double, step)
		above.Add(double, step)
	}
	if square(below).Cmp(x) > 0 || square(above).Cmp(x) < 0 {
		t.Fatal(name, "is not next to it")
	}
}

func TestDyRootAllModes(t *testing.T) {
	source := rand.New(rand.NewSource(45))
	for i, a := range manyDys() {
		if a.M.Neg {
			a = impl.DyNeg(a)
		}
		near := (impl.DyTop(a) + 1) / 2
		for _, low := range []int{-3000, -2999, near - 1601, near - 800, near - 33, near - 1, near, near + 1, near + 2, 3000, source.Intn(6001) - 3000} {
			if low >= -impl.MaxE && low <= impl.MaxE {
				sameRooted(t, a, low, (i+low+5000)%5)
			}
		}
	}
	for range 1500 {
		a := someDy(source, 12, 100)
		if a.M.Neg {
			continue
		}
		for _, mode := range modes() {
			sameRooted(t, a, source.Intn(200)-150, mode)
		}
	}
}

func TestDyRootSmallOnes(t *testing.T) {
	for n := range 300 {
		for _, e := range []int{0, -1, -2, -3, -100, -101, 7, 8} {
			for low := -3; low <= 3; low++ {
				for _, mode := range modes() {
					sameRooted(t, dyInt(n, e), low+e/2, mode)
				}
			}
		}
	}
}

// Squares, and what is next to them; squares of middles, which lie half way.
func TestDyRootsThatComeOutEven(t *testing.T) {
	source := rand.New(rand.NewSource(46))
	for range 300 {
		n := patterned(source, 1+source.Intn(45))
		square := new(big.Int).Mul(n, n)
		e := 2 * (source.Intn(300) - 150)
		for _, mode := range modes() {
			got, ok := impl.DyRoot(dy(square, e), e/2, mode)
			sameDyTold(t, "the root of a square", got, ok, n, e/2)
			for _, by := range []int64{-1, 0, 1} {
				sameRooted(t, dy(plus(square, by), e), e/2, mode)
				sameRooted(t, dy(plus(square, by), e), e/2+1, mode)
				sameRooted(t, dy(plus(square, by), e), e/2+2, mode)
				sameRooted(t, dy(plus(square, by), e), e/2-1, mode)
			}
		}
	}
}

func TestDyRootLiterals(t *testing.T) {
	rows := []struct {
		n, e, low int
		want      [5]int
	}{
		{0, 0, 0, [5]int{0, 0, 0, 0, 0}}, {1, 0, 0, [5]int{1, 1, 1, 1, 1}}, {4, 0, 0, [5]int{2, 2, 2, 2, 2}}, {2, 0, 0, [5]int{1, 1, 2, 1, 1}},
		{3, 0, 0, [5]int{2, 1, 2, 1, 2}}, {9, -2, 0, [5]int{2, 1, 2, 1, 2}}, {25, -2, 0, [5]int{2, 2, 3, 2, 3}}, {1, -2, 0, [5]int{0, 0, 1, 0, 1}},
		{1, -4, 0, [5]int{0, 0, 1, 0, 0}}, {9, -4, 0, [5]int{1, 0, 1, 0, 1}}, {2, 0, -4, [5]int{23, 22, 23, 22, 23}}, {100, 0, 2, [5]int{2, 2, 3, 2, 3}},
		{16, 0, 2, [5]int{1, 1, 1, 1, 1}}, {16, 0, 3, [5]int{0, 0, 1, 0, 1}}, {1, 3000, 1500, [5]int{1, 1, 1, 1, 1}}, {1, -3000, -1500, [5]int{1, 1, 1, 1, 1}},
		{1, 3000, 3000, [5]int{0, 0, 1, 0, 0}}, {1, -3000, 3000, [5]int{0, 0, 1, 0, 0}},
	}
	for _, row := range rows {
		for mode, want := range row.want {
			got, ok := impl.DyRoot(dyInt(row.n, row.e), row.low, mode)
			if !ok {
				t.Fatal(row, mode)
			}
			sameDy(t, fmt.Sprint("DyRoot ", row.n, row.e, row.low, mode), got, big.NewInt(int64(want)), row.low)
			if row.n > 0 {
				got, ok = impl.DyRoot(dyInt(-row.n, row.e), row.low, mode)
				refusedDy(t, "a root of what is below 0", got, ok)
			}
		}
	}
	for _, mode := range modes() {
		got, ok := impl.DyRoot(dyInt(3, 3000), -3000, mode)
		refusedDy(t, "a root of 4501 bits", got, ok)
		got, ok = impl.DyRoot(dyInt(1, 3000), -3000, mode)
		sameDyTold(t, "a root that is a power of two", got, ok, big.NewInt(1), 1500)
	}
}

// The root of 2 has 1600 bits with low -1599, and 1601 with low -1600: odd or even says whether it may be told.
func TestDyRootMayNotBeTold(t *testing.T) {
	refused := 0
	for _, n := range []int{2, 3, 5, 6, 7} {
		for low := -1606; low <= -1594; low++ {
			for _, mode := range modes() {
				if _, ok := impl.DyRoot(dyInt(n, 0), low, mode); !ok {
					refused++
				}
				sameRooted(t, dyInt(n, 0), low, mode)
			}
		}
	}
	if refused < 50 {
		t.Fatal("few roots are refused:", refused)
	}
}

// ratOf is the number by the document's words.
func ratOf(d impl.Dy) *big.Rat {
	return new(big.Rat).SetFrac(scaled(d), two(impl.MaxE))
}

func sameDyText(t *testing.T, d impl.Dy) {
	t.Helper()
	text, ok := impl.DyText(d)
	if d.E < -100 || d.E > 1000 {
		if ok || len(text) != 0 {
			t.Fatalf("DyText of %v is %q", d, text)
		}
		return
	}
	if want := ratOf(d).FloatString(max(0, -d.E)); !ok || string(text) != want {
		t.Fatalf("DyText of %v is %q, not %q", d, text, want)
	}
	back, is := new(big.Rat).SetString(string(text))
	if !is || back.Cmp(ratOf(d)) != 0 {
		t.Fatalf("DyText of %v is %q", d, text)
	}
	ahead, behind, point := strings.Cut(strings.TrimPrefix(string(text), "-"), ".")
	if point != (d.E < 0) || len(behind) != max(0, -d.E) || ahead == "" || len(ahead) > 1 && ahead[0] == '0' {
		t.Fatalf("DyText of %v is %q", d, text)
	}
}

func TestDyTexts(t *testing.T) {
	for _, d := range manyDys() {
		sameDyText(t, d)
	}
	for _, n := range []*big.Int{big.NewInt(1), big.NewInt(-1), big.NewInt(3), big.NewInt(-65535), plus(two(100), 1), minus(plus(two(333), -1)), mostNat(), minus(mostNat())} {
		for e := -103; e <= 20; e++ {
			sameDyText(t, dy(n, e))
		}
		for e := 980; e <= 1003; e++ {
			sameDyText(t, dy(n, e))
		}
	}
	for n := -700; n <= 700; n++ {
		for _, e := range []int{-9, -3, -1, 0, 1, 5} {
			sameDyText(t, dyInt(n, e))
		}
	}
}

func TestDyTextLiterals(t *testing.T) {
	rows := []struct {
		n, e int
		text string
	}{
		{0, 0, "0"}, {1, 0, "1"}, {-1, 0, "-1"}, {1, -1, "0.5"}, {-1, -1, "-0.5"}, {1, -2, "0.25"}, {1, -3, "0.125"}, {-1, -4, "-0.0625"}, {3, -1, "1.5"},
		{-25, -1, "-12.5"}, {1, 10, "1024"}, {-3, 2, "-12"}, {1, -10, "0.0009765625"}, {1025, -10, "1.0009765625"}, {2047, -1, "1023.5"}, {5, 1, "10"},
	}
	for _, row := range rows {
		if text, ok := impl.DyText(dyInt(row.n, row.e)); !ok || string(text) != row.text {
			t.Fatalf("%v: %q", row, text)
		}
	}
	rest := []struct {
		e, length int
		ok        bool
	}{{-101, 0, false}, {-100, 102, true}, {1000, 302, true}, {1001, 0, false}, {-3000, 0, false}, {3000, 0, false}}
	for _, row := range rest {
		if text, ok := impl.DyText(dyInt(1, row.e)); ok != row.ok || len(text) != row.length {
			t.Fatalf("%v: %q", row, text)
		}
	}
}

// dyAnswers is what a function of this chapter answers, told alike for all of them.
type dyAnswers struct {
	dys   []impl.Dy
	text  []byte
	n     int
	exact bool
	ok    bool
}

func (a dyAnswers) String() string {
	var parts []string
	for _, d := range a.dys {
		parts = append(parts, fmt.Sprint(d.M.Neg, bigOf(d.M.A), len(d.M.A.L), d.E))
	}
	return fmt.Sprintf("%s %q %d %t %t", strings.Join(parts, " "), a.text, a.n, a.exact, a.ok)
}

type dyCall struct {
	name string
	// binary says that b matters, too.
	binary bool
	call   func(a impl.Dy, b impl.Dy) dyAnswers
}

func dyCalls() []dyCall {
	one := func(d impl.Dy, ok bool) dyAnswers { return dyAnswers{dys: []impl.Dy{d}, ok: ok} }
	list := []dyCall{
		{"DyOk", false, func(a, b impl.Dy) dyAnswers { return dyAnswers{ok: impl.DyOk(a)} }},
		{"DyCmp", true, func(a, b impl.Dy) dyAnswers { return dyAnswers{n: impl.DyCmp(a, b)} }},
		{"DyNeg", false, func(a, b impl.Dy) dyAnswers { return one(impl.DyNeg(a), false) }},
		{"DyAdd", true, func(a, b impl.Dy) dyAnswers { return one(impl.DyAdd(a, b)) }},
		{"DySub", true, func(a, b impl.Dy) dyAnswers { return one(impl.DySub(a, b)) }},
		{"DyMul", true, func(a, b impl.Dy) dyAnswers { return one(impl.DyMul(a, b)) }},
		{"DyTop", false, func(a, b impl.Dy) dyAnswers { return dyAnswers{n: impl.DyTop(a)} }},
		{"DyText", false, func(a, b impl.Dy) dyAnswers { text, ok := impl.DyText(a); return dyAnswers{text: text, ok: ok} }},
	}
	for _, k := range []int{0, -1, 16, -impl.MaxE, 4 * impl.MaxE} {
		list = append(list, dyCall{"DyShift", false, func(a, b impl.Dy) dyAnswers { return one(impl.DyShift(a, k)) }})
	}
	for i, low := range []int{-impl.MaxE, -40, -16, -1, 0, 1, 16, 700, impl.MaxE} {
		mode := i % 5
		list = append(list,
			dyCall{"DyRound", false, func(a, b impl.Dy) dyAnswers {
				d, exact, ok := impl.DyRound(a, low, mode)
				return dyAnswers{dys: []impl.Dy{d}, exact: exact, ok: ok}
			}},
			dyCall{"DyDiv", true, func(a, b impl.Dy) dyAnswers { return one(impl.DyDiv(a, b, low, mode)) }},
			dyCall{"DyRoot", false, func(a, b impl.Dy) dyAnswers { return one(impl.DyRoot(a, low, mode)) }})
	}
	return list
}

// dyRefusal is what a call answers where an argument is not DyOk.
func dyRefusal(name string) string {
	switch name {
	case "DyOk", "DyCmp", "DyTop", "DyText":
		return dyAnswers{}.String()
	}
	return dyAnswers{dys: make([]impl.Dy, 1)}.String()
}

func TestDyWrongNumbers(t *testing.T) {
	good := []impl.Dy{{}, dyInt(1, 0), dyInt(-1, 0), dyInt(7, -3), dyInt(1, impl.MaxE), dyInt(1, -impl.MaxE), dy(mostNat(), 0), dy(minus(mostNat()), 1)}
	for _, c := range dyCalls() {
		zero := dyRefusal(c.name)
		for _, bad := range badDys() {
			for _, other := range append(slices.Clone(good), bad) {
				if got := c.call(bad, other).String(); got != zero {
					t.Fatalf("%s of %v, %v is %s", c.name, bad, other, got)
				}
				if !c.binary {
					break
				}
				if got := c.call(other, bad).String(); got != zero {
					t.Fatalf("%s of %v, %v is %s", c.name, other, bad, got)
				}
			}
		}
	}
}

func scribbleDys(a dyAnswers) {
	var nats []impl.Nat
	for _, d := range a.dys {
		nats = append(nats, d.M.A)
	}
	scribble(answers{nats: nats, text: a.text})
}

func TestDyMemory(t *testing.T) {
	var numbers []impl.Dy
	for _, n := range []impl.Nat{natInt(1), natInt(65535), nat(plus(two(100), 1)), nat(plus(two(100), -1)), nat(mostNat()), roomyNat(), roomyNat(2),
		roomyNat(5, 0), roomyNat(-1, 3), roomyNat(slices.Repeat([]int{3}, impl.MaxLimbs+1)...)} {
		for _, e := range []int{0, 1, -40, -100, 1000} {
			numbers = append(numbers, impl.Dy{M: impl.Whole{A: n}, E: e}, impl.Dy{M: impl.Whole{Neg: true, A: n}, E: e})
		}
	}
	for _, c := range dyCalls() {
		for i, a := range numbers {
			for j, b := range numbers {
				if (i+j)%3 != 0 && i != j || !c.binary && i != j {
					continue
				}
				wasA, wasB := slices.Clone(a.M.A.L[:cap(a.M.A.L)]), slices.Clone(b.M.A.L[:cap(b.M.A.L)])
				first := c.call(a, b)
				sameLists(t, c.name, a.M.A, wasA)
				sameLists(t, c.name, b.M.A, wasB)
				told := first.String()
				second := c.call(a, b)
				scribbleDys(first)
				sameLists(t, c.name+" shares memory, and", a.M.A, wasA)
				sameLists(t, c.name+" shares memory, and", b.M.A, wasB)
				if second.String() != told {
					t.Fatalf("%s hands out what it keeps", c.name)
				}
				if third := c.call(a, b); third.String() != told {
					t.Fatalf("%s keeps something", c.name)
				}
			}
		}
	}
}

// One list may be handed in for both arguments, with either sign, or lie across the other.
func TestDyArgumentsThatShare(t *testing.T) {
	all := []int{65535, 7, 65535, 1, 65535, 65535, 9}
	was := slices.Clone(all)
	for _, c := range dyCalls() {
		for i := range len(all) {
			for j := i; j < len(all); j++ {
				for signs := range 4 {
					a := impl.Dy{M: impl.Whole{Neg: signs%2 == 1, A: impl.Nat{L: all[i : j+1]}}, E: signs}
					for _, list := range [][]int{all[j:], all[i : j+1]} {
						b := impl.Dy{M: impl.Whole{Neg: signs/2 == 1, A: impl.Nat{L: list}}, E: -30 * signs}
						want := c.call(impl.Dy{M: impl.Whole{Neg: a.M.Neg, A: roomyNat(a.M.A.L...)}, E: a.E}, impl.Dy{M: impl.Whole{Neg: b.M.Neg, A: roomyNat(list...)}, E: b.E})
						if got := c.call(a, b); got.String() != want.String() {
							t.Fatalf("%s of lists that share: %s, not %s", c.name, got, want)
						}
					}
				}
			}
		}
	}
	if !slices.Equal(all, was) {
		t.Fatal(all)
	}
}

func TestDyOfMemory(t *testing.T) {
	for _, n := range []*big.Int{big.NewInt(1), big.NewInt(-12), two(16), two(500), minus(plus(two(500), 1)), mostNat(), minus(two(natBits - 1))} {
		for _, e := range []int{0, -1, 5, -impl.MaxE, impl.MaxE + 1} {
			m := whole(n)
			was := slices.Clone(m.A.L[:cap(m.A.L)])
			first, ok := impl.DyOf(m, e)
			second, _ := impl.DyOf(m, e)
			sameLists(t, "DyOf", m.A, was)
			scribbleDys(dyAnswers{dys: []impl.Dy{first}})
			sameLists(t, "DyOf shares memory, and", m.A, was)
			sameDyTold(t, "DyOf", second, ok, n, e)
		}
	}
	// What lies behind the length would make a longer number of it.
	long := []int{3, 5, 7}
	got, ok := impl.DyOf(impl.Whole{A: impl.Nat{L: long[:1]}}, 0)
	sameDyTold(t, "DyOf", got, ok, big.NewInt(3), 0)
}
