package tests

import (
	"fmt"
	"math"
	"math/big"
	"math/rand"
	"slices"
	"testing"

	"loop.example/g00382/impl"
)

// fineLows has both limits of low, and some between them.
func fineLows() []int { return []int{-200, -199, -33, -2, -1, 0, 1, 2, 17, 199, 200} }

// badLows has what is one beyond these limits, what a dyadic number may be rounded to, and more.
func badLows() []int {
	return []int{-201, 201, -202, 202, -impl.MaxE, impl.MaxE, -impl.MaxE - 1, impl.MaxE + 1, 1 << 32, -1 << 32, 1<<32 + 1, math.MaxInt, math.MinInt}
}

func hasNought(v impl.Iv) bool { return hasScaled(v, new(big.Int)) }

// stepsOf is how many times 2^low x divided by y is rounded to.
func stepsOf(x *big.Int, y *big.Int, low int, mode int) *big.Int {
	if low < 0 {
		x = new(big.Int).Lsh(x, uint(-low))
	} else {
		y = new(big.Int).Lsh(y, uint(low))
	}
	steps, _ := wantQuotient(x, y, mode)
	return steps
}

// narrowed has the intervals that are less by one step at either end, as far as there are such.
func narrowed(v impl.Iv, low int) []impl.Iv {
	step := dyInt(1, low)
	var list []impl.Iv
	if lo, ok := impl.DyAdd(v.Lo, step); ok && impl.DyCmp(lo, v.Hi) <= 0 {
		list = append(list, impl.Iv{Lo: lo, Hi: v.Hi})
	}
	if hi, ok := impl.DySub(v.Hi, step); ok && impl.DyCmp(v.Lo, hi) <= 0 {
		list = append(list, impl.Iv{Lo: v.Lo, Hi: hi})
	}
	return list
}

// sameDividedIv asks for the least quotient, rounded down, and the greatest one, rounded up.
func sameDividedIv(t *testing.T, a impl.Iv, b impl.Iv, low int) (impl.Iv, bool) {
	t.Helper()
	got, ok := impl.IvDiv(a, b, low)
	name := fmt.Sprintf("IvDiv of %v and %v, %d", a, b, low)
	if hasNought(b) {
		refusedIv(t, name, got, ok)
		return got, ok
	}
	lo, _ := extremesOf(a, b, func(x, y *big.Int) *big.Int { return stepsOf(x, y, low, impl.RdDown) })
	_, hi := extremesOf(a, b, func(x, y *big.Int) *big.Int { return stepsOf(x, y, low, impl.RdUp) })
	sameIvTold(t, name, got, ok, lo, hi, low)
	return got, ok
}

// dividedHolds is the promise: quotients lie in the answer, the answer times a divisor has what was divided, and no narrower one has.
func dividedHolds(t *testing.T, source *rand.Rand, a impl.Iv, b impl.Iv, low int) {
	t.Helper()
	got, ok := sameDividedIv(t, a, b, low)
	if !ok {
		return
	}
	lo, hi := stepsOf(scaled(got.Lo), two(impl.MaxE), low, impl.RdDown), stepsOf(scaled(got.Hi), two(impl.MaxE), low, impl.RdUp)
	for _, x := range inside(source, a) {
		for _, y := range inside(source, b) {
			if stepsOf(x, y, low, impl.RdDown).Cmp(lo) < 0 || stepsOf(x, y, low, impl.RdUp).Cmp(hi) > 0 {
				t.Fatal("IvDiv", a, b, low, "has not the quotient of", x, y)
			}
			if !dyTellable(x, -impl.MaxE) || !dyTellable(y, -impl.MaxE) {
				continue
			}
			number, by := dy(x, -impl.MaxE), alone(dy(y, -impl.MaxE))
			if back, is := impl.IvMul(got, by); is && !impl.IvHas(back, number) {
				t.Fatal("IvDiv", a, b, low, "times", y, "has not", x)
			}
			if back, is := impl.IvMul(got, b); is && !impl.IvHas(back, number) {
				t.Fatal("IvDiv", a, b, low, "times all of b has not", x)
			}
		}
	}
	for _, less := range narrowed(got, low) {
		if hasAllQuotients(less, a, b) {
			t.Fatal("IvDiv", a, b, low, "is not the least one")
		}
	}
}

// hasAllQuotients asks those of ends, among which the least and the greatest ones are.
func hasAllQuotients(v impl.Iv, a impl.Iv, b impl.Iv) bool {
	for _, x := range []impl.Dy{a.Lo, a.Hi} {
		for _, y := range []impl.Dy{b.Lo, b.Hi} {
			first, second := new(big.Int).Mul(scaled(v.Lo), scaled(y)), new(big.Int).Mul(scaled(v.Hi), scaled(y))
			if scaled(y).Sign() < 0 {
				first, second = second, first
			}
			number := new(big.Int).Lsh(scaled(x), impl.MaxE)
			if number.Cmp(first) < 0 || number.Cmp(second) > 0 {
				return false
			}
		}
	}
	return true
}

func TestIvDivOfSmallOnes(t *testing.T) {
	source := rand.New(rand.NewSource(73))
	for _, a := range smallIvs(4, 0) {
		for i, b := range smallIvs(4, -1) {
			for low := -3; low <= 2; low++ {
				sameDividedIv(t, a, b, low)
			}
			if i%3 == 0 {
				dividedHolds(t, source, a, b, -2)
			}
		}
	}
}

func TestIvDivOfFarOnes(t *testing.T) {
	source := rand.New(rand.NewSource(74))
	list := farIvs()
	told := 0
	for i, a := range list {
		for j, b := range list {
			if hasNought(b) || (5*i+j)%23 != 0 && i != j {
				continue
			}
			low := fineLows()[(i+j)%len(fineLows())]
			if _, ok := sameDividedIv(t, a, b, low); ok {
				told++
			}
			if (i+j)%7 == 0 {
				dividedHolds(t, source, a, b, low)
			}
		}
	}
	if told < 300 {
		t.Fatal("few answers are told:", told)
	}
}

func TestIvDivAtRandom(t *testing.T) {
	source := rand.New(rand.NewSource(75))
	for i := range 1500 {
		limbs, far := []int{1, 3, 20}[i%3], []int{3, 40, 300}[i/3%3]
		a, b := someIv(source, limbs, far), someIv(source, limbs, far)
		low := source.Intn(2*impl.MaxFine+1) - impl.MaxFine
		if i%2 == 0 {
			// So that there are some steps, but not too many.
			low = min(max(impl.DyTop(a.Hi)-impl.DyTop(b.Hi)-source.Intn(40), -impl.MaxFine), impl.MaxFine)
		}
		if hasNought(b) {
			got, ok := impl.IvDiv(a, b, low)
			refusedIv(t, "IvDiv", got, ok)
			b = ordered(b.Hi, nextTo(b.Hi))
		}
		dividedHolds(t, source, a, b, low)
		dividedHolds(t, source, oppositeIv(a), b, low)
		dividedHolds(t, source, b, b, low)
	}
}

func TestIvDivLiterals(t *testing.T) {
	rows := []struct {
		a, b [2]int
		low  int
		want [2]int
	}{
		{[2]int{1, 1}, [2]int{3, 3}, 0, [2]int{0, 1}}, {[2]int{-1, -1}, [2]int{3, 3}, 0, [2]int{-1, 0}}, {[2]int{1, 1}, [2]int{-3, -3}, 0, [2]int{-1, 0}},
		{[2]int{-1, -1}, [2]int{-3, -3}, 0, [2]int{0, 1}}, {[2]int{6, 6}, [2]int{3, 3}, 0, [2]int{2, 2}}, {[2]int{6, 6}, [2]int{-3, -3}, 1, [2]int{-1, -1}},
		{[2]int{-7, 7}, [2]int{2, 2}, 0, [2]int{-4, 4}}, {[2]int{1, 4}, [2]int{-2, -1}, 0, [2]int{-4, 0}}, {[2]int{1, 4}, [2]int{-2, -1}, -1, [2]int{-8, -1}},
		{[2]int{-2, 3}, [2]int{1, 4}, 0, [2]int{-2, 3}}, {[2]int{-2, 3}, [2]int{-4, -1}, 0, [2]int{-3, 2}}, {[2]int{-9, -5}, [2]int{2, 3}, 0, [2]int{-5, -1}},
		{[2]int{5, 9}, [2]int{2, 3}, 0, [2]int{1, 5}}, {[2]int{5, 9}, [2]int{-3, -2}, 0, [2]int{-5, -1}}, {[2]int{-9, -5}, [2]int{-3, -2}, 0, [2]int{1, 5}},
		{[2]int{0, 0}, [2]int{-3, -2}, 0, [2]int{0, 0}}, {[2]int{0, 1}, [2]int{3, 5}, 0, [2]int{0, 1}}, {[2]int{-1, 0}, [2]int{3, 5}, 0, [2]int{-1, 0}}, {[2]int{0, 1}, [2]int{-5, -3}, 0, [2]int{-1, 0}},
		{[2]int{1, 1}, [2]int{3, 3}, -4, [2]int{5, 6}}, {[2]int{1, 1}, [2]int{3, 3}, 200, [2]int{0, 1}}, {[2]int{-1, 1}, [2]int{3, 3}, 200, [2]int{-1, 1}}, {[2]int{8, 12}, [2]int{2, 4}, 1, [2]int{1, 3}},
		{[2]int{100, 100}, [2]int{7, 7}, 3, [2]int{1, 2}},
	}
	for _, row := range rows {
		got, ok := impl.IvDiv(ivInt(row.a[0], row.a[1], 0), ivInt(row.b[0], row.b[1], 0), row.low)
		sameAsIv(t, fmt.Sprint("IvDiv ", row), got, ok, ivInt(row.want[0], row.want[1], row.low))
	}
}

func TestIvDivByNought(t *testing.T) {
	least := dyInt(1, -impl.MaxE)
	some := []impl.Iv{{}, ivInt(1, 1, 0), ivInt(-3, 5, -2), ivInt(2, 2, -impl.MaxE)}
	for _, b := range []impl.Iv{{}, ivInt(0, 1, 0), ivInt(-1, 0, 0), ivInt(-1, 1, 0), {Lo: impl.DyNeg(least), Hi: least}, {Lo: impl.DyNeg(least)}, {Hi: least}, {Lo: dyInt(-1, impl.MaxE), Hi: least},
		{Hi: dyInt(1, impl.MaxE)}, {Lo: impl.Dy{M: impl.Whole{A: roomyNat()}}, Hi: dyInt(1, 0)}} {
		for _, a := range some {
			for _, low := range fineLows() {
				got, ok := impl.IvDiv(a, b, low)
				refusedIv(t, "divided by what has 0", got, ok)
			}
		}
	}
	// A step away from 0 there is nothing to refuse.
	got, ok := impl.IvDiv(ivInt(-1, 1, 0), impl.Iv{Lo: least, Hi: dyInt(1, 0)}, 0)
	sameAsIv(t, "IvDiv by the least one", got, ok, ivInt(-1, 1, impl.MaxE))
	got, ok = impl.IvDiv(ivInt(1, 3, 0), impl.Iv{Lo: dyInt(-1, 0), Hi: impl.DyNeg(least)}, 0)
	sameAsIv(t, "IvDiv by the least one below 0", got, ok, impl.Iv{Lo: dyInt(-3, impl.MaxE), Hi: dyInt(-1, 0)})
}

func TestIvDivMayNotBeTold(t *testing.T) {
	span := func(lo, hi impl.Dy) impl.Iv { return impl.Iv{Lo: lo, Hi: hi} }
	zero, one, three := impl.Dy{}, dyInt(1, 0), dyInt(3, 0)
	rows := []struct {
		name string
		a, b impl.Iv
		low  int
		ok   bool
	}{
		// A third of 2^1602 has 1601 bits and is odd if it is cut off, and even a step above that.
		{"1600 bits", alone(dyInt(1, 1601)), alone(three), 0, true}, {"a lower end of 1601 bits", alone(dyInt(1, 1602)), alone(three), 0, false},
		{"an upper end that is even", span(zero, dyInt(1, 1602)), alone(three), 0, true}, {"an upper end that is odd", span(zero, dyInt(1, 1603)), alone(three), 0, false},
		{"an upper end of a step more", span(zero, dyInt(1, 1602)), alone(three), -1, false}, {"an upper end of MaxE", span(zero, dyInt(1, 2999)), alone(dyInt(1, -1)), 0, true},
		{"an upper end beyond MaxE", span(zero, dyInt(1, 3000)), span(dyInt(1, -1), one), 0, false}, {"a lower end beyond MaxE", span(dyInt(-1, 3000), zero), span(dyInt(1, -1), one), 0, false},
		{"less than a step", alone(dyInt(1, -3000)), alone(dyInt(1, 3000)), 200, true}, {"far too many bits", alone(dyInt(1, 3000)), alone(three), -200, false},
		{"a quotient between them of 1602 bits", span(zero, dyInt(1, 1603)), span(one, three), 0, true},
		{"two quotients between them of 1602 bits", span(dyInt(-1, 1603), dyInt(1, 1603)), span(one, three), 0, true},
		{"a quotient between them beyond MaxE", span(zero, dyInt(5, 2950)), span(dyInt(1, -50), dyInt(5, -51)), 0, true},
	}
	for _, row := range rows {
		for turn := range 4 {
			a, b := row.a, row.b
			if turn%2 == 1 {
				a = oppositeIv(a)
			}
			if turn/2 == 1 {
				b = oppositeIv(b)
			}
			got, ok := sameDividedIv(t, a, b, row.low)
			if ok != row.ok || !impl.IvOk(a) || !impl.IvOk(b) {
				t.Fatal(row.name, turn, got, ok)
			}
		}
	}
}

func sameRootIv(t *testing.T, a impl.Iv, low int) (impl.Iv, bool) {
	t.Helper()
	got, ok := impl.IvRoot(a, low)
	name := fmt.Sprintf("IvRoot of %v, %d", a, low)
	if scaled(a.Lo).Sign() < 0 {
		refusedIv(t, name, got, ok)
		return got, ok
	}
	sameIvTold(t, name, got, ok, wantRoot(a.Lo, low, impl.RdDown), wantRoot(a.Hi, low, impl.RdUp), low)
	return got, ok
}

// rootHolds is the promise: roots lie in the answer, its square has what they are of, and no narrower one's has.
func rootHolds(t *testing.T, source *rand.Rand, a impl.Iv, low int) {
	t.Helper()
	got, ok := sameRootIv(t, a, low)
	if !ok {
		return
	}
	lo, hi := scaled(got.Lo), scaled(got.Hi)
	lo.Mul(lo, lo)
	hi.Mul(hi, hi)
	for _, x := range inside(source, a) {
		if square := new(big.Int).Lsh(x, impl.MaxE); square.Cmp(lo) < 0 || square.Cmp(hi) > 0 {
			t.Fatal("IvRoot", a, low, "has not the root of", x)
		}
		if back, is := impl.IvMul(got, got); is && dyTellable(x, -impl.MaxE) && !impl.IvHas(back, dy(x, -impl.MaxE)) {
			t.Fatal("IvRoot", a, low, "squared has not", x)
		}
	}
	for _, less := range narrowed(got, low) {
		if back, is := impl.IvMul(less, less); is && impl.IvWithin(a, back) {
			t.Fatal("IvRoot", a, low, "is not the least one")
		}
	}
}

func TestIvRoots(t *testing.T) {
	source := rand.New(rand.NewSource(76))
	for n := range 60 {
		for m := n; m < 60; m++ {
			for low := -2; low <= 2; low++ {
				sameRootIv(t, ivInt(n, m, 0), low)
			}
			rootHolds(t, source, ivInt(n, m, -3), -2)
		}
	}
	told, refused := 0, 0
	for i, v := range farIvs() {
		if v.Hi.M.Neg {
			v = oppositeIv(v)
		}
		for j, low := range fineLows() {
			if j%2 == i%2 {
				rootHolds(t, source, v, low)
			}
		}
		v = ordered(v.Hi, impl.DyNeg(v.Lo))
		if _, ok := sameRootIv(t, v, fineLows()[i%len(fineLows())]); ok {
			told++
		} else if !v.Lo.M.Neg {
			refused++
		}
	}
	if told < 50 || refused < 10 {
		t.Fatal("few answers are told, or refused:", told, refused)
	}
	for i := range 1500 {
		v := someIv(source, []int{1, 3, 20}[i%3], []int{3, 40, 300}[i/3%3])
		low := min(max(impl.DyTop(v.Hi)/2-source.Intn(40), -impl.MaxFine), impl.MaxFine)
		rootHolds(t, source, v, low)
		if v.Hi.M.Neg {
			rootHolds(t, source, oppositeIv(v), low)
		}
	}
}

func TestIvRootLiterals(t *testing.T) {
	rows := []struct {
		lo, hi, e, low int
		want           [2]int
	}{
		{2, 9, 0, 0, [2]int{1, 3}}, {4, 9, 0, 0, [2]int{2, 3}}, {5, 8, 0, 0, [2]int{2, 3}}, {5, 10, 0, 0, [2]int{2, 4}}, {0, 0, 0, 0, [2]int{0, 0}}, {0, 1, -2, 0, [2]int{0, 1}},
		{0, 1, -2, -1, [2]int{0, 1}}, {1, 1, -2, -1, [2]int{1, 1}}, {1, 1, -2, 0, [2]int{0, 1}}, {2, 2, 0, -4, [2]int{22, 23}}, {16, 16, 0, 2, [2]int{1, 1}}, {16, 17, 0, 2, [2]int{1, 2}},
		{16, 17, 0, 3, [2]int{0, 1}}, {1, 1, 400, 200, [2]int{1, 1}}, {1, 4, 400, 200, [2]int{1, 2}}, {1, 1, -400, -200, [2]int{1, 1}}, {2, 2, -400, -200, [2]int{1, 2}}, {0, 1, -3000, 200, [2]int{0, 1}},
		{1, 1, -3000, -200, [2]int{0, 1}}, {15, 15, 0, 0, [2]int{3, 4}}, {17, 17, 0, 0, [2]int{4, 5}},
	}
	for _, row := range rows {
		got, ok := impl.IvRoot(ivInt(row.lo, row.hi, row.e), row.low)
		sameAsIv(t, fmt.Sprint("IvRoot ", row), got, ok, ivInt(row.want[0], row.want[1], row.low))
	}
	least := dyInt(-1, -impl.MaxE)
	for _, v := range []impl.Iv{{Lo: least}, {Lo: least, Hi: dyInt(1, 0)}, {Lo: least, Hi: dyInt(-1, -impl.MaxE)}, ivInt(-1, 4, 0), ivInt(-4, -1, 0), ivInt(-1, 1, impl.MaxE)} {
		for _, low := range fineLows() {
			got, ok := impl.IvRoot(v, low)
			refusedIv(t, "IvRoot of what is below 0", got, ok)
		}
	}
}

// The root of 3 times 2^2800 is 1600 bits long with low -199, and 1601 with low -200, where odd or even says whether it may be told.
func TestIvRootMayNotBeTold(t *testing.T) {
	told, refused := 0, 0
	for _, n := range []int{2, 3, 5, 6, 7, 10, 11, 13} {
		for e := 2770; e <= 2830; e++ {
			for _, low := range []int{-200, -199, -190} {
				for _, v := range []impl.Iv{ivInt(0, n, e), ivInt(n, n, e), ivInt(n, 1<<20, e)} {
					if _, ok := sameRootIv(t, v, low); ok {
						told++
					} else {
						refused++
					}
				}
			}
		}
	}
	if told < 300 || refused < 300 {
		t.Fatal("few roots are told, or refused:", told, refused)
	}
	got, ok := impl.IvRoot(ivInt(0, 3, 3000), -200)
	refusedIv(t, "a root of 1701 bits as Hi", got, ok)
	got, ok = impl.IvRoot(impl.Iv{Lo: dyInt(3, 2998), Hi: dyInt(1, 3000)}, -200)
	refusedIv(t, "a root of 1700 bits as Lo", got, ok)
	got, ok = impl.IvRoot(ivInt(1, 1, 3000), -200)
	sameAsIv(t, "a root that is a power of two", got, ok, ivInt(1, 1, 1500))
}

// sameOut also asks that it is told: what is rounded has no more bits than it had.
func sameOut(t *testing.T, a impl.Iv, low int) {
	t.Helper()
	got, ok := impl.IvOut(a, low)
	lo, _ := wantRound(a.Lo, low, impl.RdDown)
	hi, _ := wantRound(a.Hi, low, impl.RdUp)
	name := fmt.Sprintf("IvOut of %v, %d", a, low)
	sameIvTold(t, name, got, ok, lo, hi, low)
	if !ok || !impl.IvWithin(a, got) {
		t.Fatal(name, "has not all of it")
	}
	for _, less := range narrowed(got, low) {
		if impl.IvWithin(a, less) {
			t.Fatal(name, "is not the least one")
		}
	}
	again, ok := impl.IvOut(got, low)
	sameAsIv(t, name+", again", again, ok, got)
}

func TestIvOut(t *testing.T) {
	for _, v := range smallIvs(17, -1) {
		for low := -2; low <= 4; low++ {
			sameOut(t, v, low)
		}
	}
	for i, v := range farIvs() {
		for j, low := range fineLows() {
			if (i+j)%2 == 0 {
				sameOut(t, v, low)
			}
		}
	}
	source := rand.New(rand.NewSource(77))
	for range 2000 {
		v := someIv(source, 20, 250)
		sameOut(t, v, source.Intn(2*impl.MaxFine+1)-impl.MaxFine)
		sameOut(t, v, min(max(v.Lo.E+source.Intn(5)-2, -impl.MaxFine), impl.MaxFine))
		sameOut(t, v, min(max(v.Hi.E+source.Intn(5)-2, -impl.MaxFine), impl.MaxFine))
	}
	for _, n := range []*big.Int{mostNat(), plus(mostNat(), -2), minus(mostNat())} {
		for e := -203; e <= 203; e++ {
			for _, low := range []int{e - 1, e, e + 1, e + 2, -200, 200} {
				if low >= -impl.MaxFine && low <= impl.MaxFine {
					sameOut(t, alone(dy(n, e)), low)
				}
			}
		}
	}
}

func TestIvOutLiterals(t *testing.T) {
	rows := []struct {
		lo, hi, e, low int
		want           [2]int
	}{
		{3, 5, 0, 2, [2]int{0, 2}}, {-3, 5, 0, 2, [2]int{-1, 2}}, {-5, -3, 0, 2, [2]int{-2, 0}}, {4, 8, 0, 2, [2]int{1, 2}}, {-8, -4, 0, 2, [2]int{-2, -1}}, {-8, -3, 0, 2, [2]int{-2, 0}},
		{-9, -4, 0, 2, [2]int{-3, -1}}, {1, 1, 0, 2, [2]int{0, 1}}, {-1, -1, 0, 2, [2]int{-1, 0}}, {-1, 1, 0, 2, [2]int{-1, 1}}, {0, 0, 0, 200, [2]int{0, 0}}, {0, 1, 0, 200, [2]int{0, 1}},
		{-1, 0, 0, 200, [2]int{-1, 0}}, {1, 3, -1, 0, [2]int{0, 2}}, {-3, -1, -1, 0, [2]int{-2, 0}}, {1, 3, -1, -1, [2]int{1, 3}}, {1, 3, -1, -3, [2]int{4, 12}},
		{1, 1, -200, -200, [2]int{1, 1}}, {1, 1, -201, -200, [2]int{0, 1}}, {-1, -1, -201, -200, [2]int{-1, 0}}, {1, 1, 200, 200, [2]int{1, 1}}, {1, 1, 199, 200, [2]int{0, 1}}, {-1, 1, -3000, 200, [2]int{-1, 1}},
	}
	for _, row := range rows {
		got, ok := impl.IvOut(ivInt(row.lo, row.hi, row.e), row.low)
		sameAsIv(t, fmt.Sprint("IvOut ", row), got, ok, ivInt(row.want[0], row.want[1], row.low))
	}
}

func TestIvLows(t *testing.T) {
	goods := []impl.Iv{{}, ivInt(1, 1, 0), ivInt(4, 9, 0), ivInt(0, 3, 5), ivInt(1, 1, 600), ivInt(1, 1, -600)}
	for _, v := range goods {
		for low := -impl.MaxFine - 3; low <= impl.MaxFine+3; low++ {
			_, ok := impl.IvOut(v, low)
			_, is := impl.IvRoot(v, low)
			_, too := impl.IvDiv(v, ivInt(1, 2, 0), low)
			fine := low >= -200 && low <= 200
			if ok != fine || is != fine || too != fine {
				t.Fatal(v, low, ok, is, too)
			}
		}
		for _, low := range badLows() {
			got, ok := impl.IvOut(v, low)
			refusedIv(t, "IvOut", got, ok)
			got, ok = impl.IvRoot(v, low)
			refusedIv(t, "IvRoot", got, ok)
			got, ok = impl.IvDiv(v, ivInt(1, 2, 0), low)
			refusedIv(t, "IvDiv", got, ok)
		}
	}
}

// ivAnswers is what a function of this chapter answers, told alike for all of them.
type ivAnswers struct {
	dys []impl.Dy
	ok  bool
}

func (a ivAnswers) String() string { return dyAnswers{dys: a.dys, ok: a.ok}.String() }

type ivCall struct {
	name string
	// binary says that b matters, too.
	binary bool
	call   func(a impl.Iv, b impl.Iv) ivAnswers
}

func ivCalls() []ivCall {
	yes := func(ok bool) ivAnswers { return ivAnswers{ok: ok} }
	span := func(v impl.Iv, ok bool) ivAnswers { return ivAnswers{dys: []impl.Dy{v.Lo, v.Hi}, ok: ok} }
	list := []ivCall{
		{"IvOk", false, func(a, b impl.Iv) ivAnswers { return yes(impl.IvOk(a)) }},
		{"IvOf", false, func(a, b impl.Iv) ivAnswers { return span(impl.IvOf(a.Lo, a.Hi)) }},
		{"IvHas", false, func(a, b impl.Iv) ivAnswers { return yes(impl.IvHas(a, a.Lo)) }},
		{"IvHas", false, func(a, b impl.Iv) ivAnswers { return yes(impl.IvHas(a, a.Hi)) }},
		{"IvWithin", true, func(a, b impl.Iv) ivAnswers { return yes(impl.IvWithin(a, b)) }},
		{"IvMeet", true, func(a, b impl.Iv) ivAnswers { return span(impl.IvMeet(a, b)) }},
		{"IvJoin", true, func(a, b impl.Iv) ivAnswers { return span(impl.IvJoin(a, b)) }},
		{"IvAdd", true, func(a, b impl.Iv) ivAnswers { return span(impl.IvAdd(a, b)) }},
		{"IvSub", true, func(a, b impl.Iv) ivAnswers { return span(impl.IvSub(a, b)) }},
		{"IvMul", true, func(a, b impl.Iv) ivAnswers { return span(impl.IvMul(a, b)) }},
		{"IvWide", false, func(a, b impl.Iv) ivAnswers { d, ok := impl.IvWide(a); return ivAnswers{dys: []impl.Dy{d}, ok: ok} }},
	}
	for _, low := range []int{-200, -3, 0, 16, 200} {
		list = append(list,
			ivCall{"IvDiv", true, func(a, b impl.Iv) ivAnswers { return span(impl.IvDiv(a, b, low)) }},
			ivCall{"IvRoot", false, func(a, b impl.Iv) ivAnswers { return span(impl.IvRoot(a, low)) }},
			ivCall{"IvOut", false, func(a, b impl.Iv) ivAnswers { return span(impl.IvOut(a, low)) }})
	}
	return list
}

func ivRefusal(name string) string {
	switch name {
	case "IvOk", "IvHas", "IvWithin":
		return ivAnswers{}.String()
	case "IvWide":
		return ivAnswers{dys: make([]impl.Dy, 1)}.String()
	}
	return ivAnswers{dys: make([]impl.Dy, 2)}.String()
}

func TestIvWrongIntervals(t *testing.T) {
	goods := []impl.Iv{{}, ivInt(1, 1, 0), ivInt(-1, 2, 0), ivInt(3, 7, -3), ivInt(-1, 1, impl.MaxE), {Lo: dyInt(1, -impl.MaxE), Hi: dyInt(1, impl.MaxE)}}
	for _, c := range ivCalls() {
		zero := ivRefusal(c.name)
		for _, bad := range badIvs() {
			for _, other := range append(slices.Clone(goods), bad) {
				if got := c.call(bad, other).String(); got != zero {
					t.Fatalf("%s of %v, %v is %s", c.name, bad, other, got)
				}
				if !c.binary {
					break
				}
				if got := c.call(other, bad).String(); got != zero {
					t.Fatalf("%s of %v, %v is %s", c.name, other, bad, got)
				}
			}
		}
	}
}

// listsOf has all lists of both, with the spare room behind them.
func listsOf(a impl.Iv, b impl.Iv) []impl.Nat {
	return []impl.Nat{a.Lo.M.A, a.Hi.M.A, b.Lo.M.A, b.Hi.M.A}
}

func copiesOf(lists []impl.Nat) [][]int {
	var all [][]int
	for _, n := range lists {
		all = append(all, slices.Clone(n.L[:cap(n.L)]))
	}
	return all
}

func sameAllLists(t *testing.T, name string, lists []impl.Nat, was [][]int) {
	t.Helper()
	for i, n := range lists {
		sameLists(t, name, n, was[i])
	}
}

// memoryIvs has numbers alone, ends of many lengths, intervals that have ends in common, and some that are not IvOk.
func memoryIvs() []impl.Iv {
	long := dy(plus(two(300), 1), -20)
	list := []impl.Iv{alone(impl.Dy{}), {}, alone(dyInt(1, 0)), alone(dyInt(-65537, 2)), alone(long), ivInt(1, 2, 0), ivInt(-2, 1, 0), ivInt(1, 65537, 3), ivInt(4, 9, 0), ivInt(16, 16, 0),
		ordered(long, dyInt(1, 0)), ordered(long, impl.DyNeg(long)), ordered(long, nextTo(long)), alone(dy(mostNat(), 0)), ordered(dy(mostNat(), 0), dy(minus(mostNat()), 7)), ivInt(1, 1, -150), ivInt(-3, 0, -300)}
	list = append(list, ivInt(2, 1, 0), impl.Iv{Lo: impl.Dy{M: impl.Whole{A: roomyNat(2)}}}, impl.Iv{Lo: dyInt(1, 0), Hi: impl.Dy{M: impl.Whole{A: roomyNat(5, 0)}}})
	return list
}

func TestIvMemory(t *testing.T) {
	for _, c := range ivCalls() {
		for i, a := range memoryIvs() {
			for j, b := range memoryIvs() {
				if !c.binary && i != j {
					continue
				}
				lists := listsOf(a, b)
				was := copiesOf(lists)
				first, second := c.call(a, b), c.call(a, b)
				sameAllLists(t, c.name, lists, was)
				told := first.String()
				scribbleDys(dyAnswers{dys: first.dys})
				sameAllLists(t, c.name+" shares memory, and", lists, was)
				if second.String() != told {
					t.Fatalf("%s hands out what it keeps", c.name)
				}
				if third := c.call(a, b); third.String() != told {
					t.Fatalf("%s keeps something", c.name)
				}
				endsApart(t, c.name, second)
			}
		}
	}
}

// endsApart writes over one end, and asks for the other one.
func endsApart(t *testing.T, name string, a ivAnswers) {
	t.Helper()
	if len(a.dys) != 2 {
		return
	}
	for i := range 2 {
		other := a.dys[1-i].M.A
		was := slices.Clone(other.L[:cap(other.L)])
		scribbleDys(dyAnswers{dys: a.dys[i : i+1]})
		sameLists(t, name+" shares memory between its ends, and", other, was)
	}
}

// One list may be handed in as all ends, with other signs and powers.
func TestIvArgumentsThatShare(t *testing.T) {
	all := []int{65535, 7, 65535, 1, 9}
	was := slices.Clone(all)
	shared := func(neg bool, e int) impl.Dy {
		return impl.Dy{M: impl.Whole{Neg: neg, A: impl.Nat{L: all[:3]}}, E: e}
	}
	apart := func(neg bool, e int) impl.Dy {
		return impl.Dy{M: impl.Whole{Neg: neg, A: roomyNat(all[:3]...)}, E: e}
	}
	make4 := func(d func(neg bool, e int) impl.Dy, signs int, e int) (impl.Iv, impl.Iv) {
		return impl.Iv{Lo: d(signs&1 != 0, e), Hi: d(signs&2 != 0, 3)}, impl.Iv{Lo: d(signs&4 != 0, -e), Hi: d(signs&8 != 0, 0)}
	}
	for _, c := range ivCalls() {
		for signs := range 16 {
			for _, e := range []int{-40, -1, 0, 3, 5} {
				a, b := make4(shared, signs, e)
				x, y := make4(apart, signs, e)
				got, want := c.call(a, b), c.call(x, y)
				if got.String() != want.String() {
					t.Fatalf("%s of lists that share: %s, not %s", c.name, got, want)
				}
				if got, want := c.call(a, a), c.call(x, x); got.String() != want.String() {
					t.Fatalf("%s of one interval: %s, not %s", c.name, got, want)
				}
				endsApart(t, c.name, got)
			}
		}
	}
	if !slices.Equal(all, was) {
		t.Fatal(all)
	}
}

func TestIvHasMemory(t *testing.T) {
	for _, v := range memoryIvs() {
		for _, x := range []impl.Dy{{}, dyInt(1, 0), dy(plus(two(300), 1), -20), {M: impl.Whole{A: roomyNat(2)}}, v.Lo} {
			lists := listsOf(v, impl.Iv{Lo: x, Hi: x})
			was := copiesOf(lists)
			impl.IvHas(v, x)
			sameAllLists(t, "IvHas", lists, was)
		}
	}
}

// What lies behind a list's length would make other numbers of the ends.
func TestIvBehindTheLength(t *testing.T) {
	all := []int{3, 5, 0, 0, 7}
	v := impl.Iv{Lo: impl.Dy{M: impl.Whole{A: impl.Nat{L: all[:1]}}}, Hi: impl.Dy{M: impl.Whole{A: impl.Nat{L: all[:2]}}}}
	got, ok := impl.IvOf(v.Lo, v.Hi)
	sameAsIv(t, "IvOf", got, ok, ivInt(3, 3+5*65536, 0))
	got, ok = impl.IvAdd(v, v)
	sameAsIv(t, "IvAdd", got, ok, ivInt(6, 6+10*65536, 0))
	if !slices.Equal(all, []int{3, 5, 0, 0, 7}) {
		t.Fatal(all)
	}
}
