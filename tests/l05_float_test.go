package tests

import (
	"fmt"
	"math"
	"math/big"
	"math/rand"
	"slices"
	"testing"

	"loop.example/g00382/impl"
)

// num is m times 2^e, which the caller writes as its chapter wants it; its opposite where m is below 0.
func num(m int, e int) impl.Fl {
	return impl.Fl{Kind: impl.FkNum, Neg: m < 0, M: max(m, -m), E: e}
}

func opposite(f impl.Fl) impl.Fl {
	f.Neg = !f.Neg
	return f
}

const (
	full   = 1 << 52   // the least M that has all its bits
	most   = 1<<53 - 1 // the greatest M
	leastE = -1074
	mostE  = 971
	inex   = impl.FfInexact
	under  = impl.FfInexact | impl.FfUnder
	over   = impl.FfInexact | impl.FfOver
)

var (
	nan      = impl.Fl{Kind: impl.FkNan}
	inf      = impl.Fl{Kind: impl.FkInf}
	minusInf = impl.Fl{Kind: impl.FkInf, Neg: true}
	nought   = impl.Fl{}
	minus0   = impl.Fl{Neg: true}
	one      = num(full, -52)
	least    = num(1, leastE)
	greatest = num(most, mostE)
	small    = num(full, leastE) // 2^-1022
)

// ofGo is Go's own float of the same number, made of M and E alone.
func ofGo(f impl.Fl) float64 {
	x := math.NaN()
	switch f.Kind {
	case impl.FkZero:
		x = 0
	case impl.FkNum:
		x = math.Ldexp(float64(f.M), f.E)
	case impl.FkInf:
		x = math.Inf(1)
	}
	if f.Neg {
		return -1 * x
	}
	return x
}

// fromGo takes Go's float apart without its bits.
func fromGo(x float64) impl.Fl {
	f := impl.Fl{Neg: math.Signbit(x)}
	switch {
	case math.IsNaN(x):
		return nan
	case math.IsInf(x, 0):
		f.Kind = impl.FkInf
	case x != 0:
		part, e := math.Frexp(math.Abs(x))
		f.Kind, f.M, f.E = impl.FkNum, int(math.Ldexp(part, 53)), e-53
		if f.E < leastE {
			f.M, f.E = f.M>>(leastE-f.E), leastE
		}
	}
	return f
}

// edgeNumbers has the floats above 0 at which something begins or ends.
func edgeNumbers() []impl.Fl {
	list := []impl.Fl{least, num(2, leastE), num(3, leastE), num(full/2, leastE), num(full-2, leastE), num(full-1, leastE), small, num(full+1, leastE),
		num(most-1, leastE), num(most, leastE), num(full, leastE+1), num(full+1, leastE+1), num(most, leastE+1), num(full, leastE+2)}
	for _, e := range []int{-1000, -590, -589, -565, -564, -538, -537, -500, -107, -106, -105, -54, -53, -52, -51, -1, 0, 1, 2, 10, 11, 400, 458, 459, 460, 485, 512, mostE - 1, mostE} {
		list = append(list, num(full, e), num(full+1, e), num(most-1, e), num(most, e))
	}
	return append(list, num(3<<51, -52), num(5<<50, -51), num(7<<50, -51), num(full+full/3, -53))
}

// edges has both signs of these, noughts, infinite ones and FkNan.
func edges() []impl.Fl {
	list := []impl.Fl{nought, minus0, inf, minusInf, nan}
	for _, f := range edgeNumbers() {
		list = append(list, f, opposite(f))
	}
	return list
}

// someM has all bits of M by chance, or long runs of noughts and ones.
func someM(source *rand.Rand) int {
	m := source.Intn(full)
	switch source.Intn(4) {
	case 0:
		m = full - 1 - source.Intn(8)
	case 1:
		m = source.Intn(8)
	case 2:
		m = m >> source.Intn(53) << source.Intn(53) & (full - 1)
	}
	return m
}

// someFl is a number with an E not far from e, now and then one below 2^-1022.
func someFl(source *rand.Rand, e int, far int) impl.Fl {
	e = min(max(e+source.Intn(2*far+1)-far, leastE), mostE)
	f := num(full+someM(source), e)
	if e == leastE && source.Intn(3) > 0 {
		f.M = 1 + someM(source)>>source.Intn(52)
	}
	f.Neg = source.Intn(2) == 0
	return f
}

// anyFl is one of any size.
func anyFl(source *rand.Rand) impl.Fl {
	if source.Intn(20) == 0 {
		list := edges()
		return list[source.Intn(len(list))]
	}
	e := []int{leastE, leastE + 60, -1000, -537, -107, -52, 0, 300, 459, 900, mostE}[source.Intn(11)]
	return someFl(source, e, []int{1, 60, 200}[source.Intn(3)])
}

// somePair has floats near and far from one another, of both signs.
func somePair(source *rand.Rand) (impl.Fl, impl.Fl) {
	a := anyFl(source)
	if source.Intn(3) == 0 {
		return a, anyFl(source)
	}
	return a, someFl(source, a.E, []int{0, 1, 3, 56, 110}[source.Intn(5)])
}

func isFinite(f impl.Fl) bool {
	return f.Kind == impl.FkZero || f.Kind == impl.FkNum
}

// badFls has every way of not being FlOk.
func badFls() []impl.Fl {
	var list []impl.Fl
	for _, kind := range []int{-1, 4, 5, 1 << 32, 1<<32 + 1, math.MinInt, math.MaxInt} {
		list = append(list, impl.Fl{Kind: kind}, impl.Fl{Kind: kind, Neg: true}, impl.Fl{Kind: kind, M: full}, impl.Fl{Kind: kind, M: 1, E: leastE})
	}
	for _, neg := range []bool{false, true} {
		number := func(m int, e int) { list = append(list, impl.Fl{Kind: impl.FkNum, Neg: neg, M: m, E: e}) }
		for _, e := range []int{leastE, leastE + 1, -52, 0, 1, mostE} {
			for _, m := range []int{0, -1, -full, -most, most + 1, most + 2, 1 << 54, math.MaxInt, math.MinInt} {
				number(m, e)
			}
		}
		for _, e := range []int{leastE + 1, leastE + 2, -53, -52, -1, 0, 1, mostE} {
			for _, m := range []int{1, 2, full / 2, full - 1} {
				number(m, e)
			}
		}
		for _, e := range []int{leastE - 1, leastE - 2, mostE + 1, mostE + 2, 2 * leastE, 1 << 32, -1 << 32, math.MaxInt, math.MinInt} {
			for _, m := range []int{1, full - 1, full, most} {
				number(m, e)
			}
		}
		for _, kind := range []int{impl.FkZero, impl.FkInf, impl.FkNan} {
			for _, rest := range [][2]int{{1, 0}, {-1, 0}, {full, 0}, {0, 1}, {0, -1}, {0, leastE}, {1, leastE}, {full, -52}, {math.MaxInt, 0}, {0, math.MinInt}} {
				list = append(list, impl.Fl{Kind: kind, Neg: neg, M: rest[0], E: rest[1]})
			}
		}
	}
	return append(list, impl.Fl{Kind: impl.FkNan, Neg: true})
}

func badModes() []int {
	return []int{-1, 5, -2, 6, 1 << 32, 1<<32 + 1, math.MaxInt, math.MinInt}
}

// frac is a number above or below another.
type frac struct{ x, y *big.Int }

// whole2 is the float's number times 2^1074, which is whole.
func whole2(f impl.Fl) *big.Int {
	n := new(big.Int)
	if f.Kind == impl.FkNum {
		n.Lsh(big.NewInt(int64(f.M)), uint(f.E-leastE))
	}
	if f.Neg {
		return n.Neg(n)
	}
	return n
}

func fracOfDy(d impl.Dy) frac { return frac{scaled(d), two(impl.MaxE)} }

func sumFrac(a impl.Fl, b impl.Fl) frac {
	return frac{new(big.Int).Add(whole2(a), whole2(b)), two(-leastE)}
}

func productFrac(a impl.Fl, b impl.Fl) frac {
	return frac{new(big.Int).Mul(whole2(a), whole2(b)), two(-2 * leastE)}
}

func fmaFrac(a impl.Fl, b impl.Fl, c impl.Fl) frac {
	product := productFrac(a, b)
	last := whole2(c)
	return frac{product.x.Add(product.x, last.Lsh(last, uint(-leastE))), product.y}
}

func quotientFrac(a impl.Fl, b impl.Fl) frac {
	x, y := whole2(a), whole2(b)
	if y.Sign() < 0 {
		return frac{minus(x), minus(y)}
	}
	return frac{x, y}
}

// atLeast says whether the size of q is 2^k or more.
func (q frac) atLeast(k int) bool {
	x, y := new(big.Int).Abs(q.x), q.y
	if k < 0 {
		x.Lsh(x, uint(-k))
	} else {
		y = new(big.Int).Lsh(y, uint(k))
	}
	return x.Cmp(y) >= 0
}

func (q frac) top() int {
	top := q.x.BitLen() - q.y.BitLen()
	for q.atLeast(top) {
		top++
	}
	for !q.atLeast(top - 1) {
		top--
	}
	return top
}

func (q frac) rounded(low int, mode int) (*big.Int, bool) {
	x, y := q.x, q.y
	if low < 0 {
		x = new(big.Int).Lsh(x, uint(-low))
	} else {
		y = new(big.Int).Lsh(y, uint(low))
	}
	return wantQuotient(x, y, mode)
}

// wantFl is the float of q, which is not 0, by the document's words.
func wantFl(q frac, mode int) (impl.Fl, int) {
	low := max(q.top()-53, leastE)
	near, exact := q.rounded(low, mode)
	flags := 0
	if !exact {
		flags |= impl.FfInexact
		if !q.atLeast(-1022) {
			flags |= impl.FfUnder
		}
	}
	return wantKind(near, low, q.x.Sign() < 0, flags, mode)
}

func wantKind(near *big.Int, low int, neg bool, flags int, mode int) (impl.Fl, int) {
	if near.Sign() == 0 {
		return impl.Fl{Neg: neg}, flags
	}
	if low > leastE && new(big.Int).Abs(near).Cmp(two(max(0, 1024-low))) >= 0 {
		if mode == impl.RdZero || mode == impl.RdUp && neg || mode == impl.RdDown && !neg {
			return impl.Fl{Kind: impl.FkNum, Neg: neg, M: most, E: mostE}, over
		}
		return impl.Fl{Kind: impl.FkInf, Neg: neg}, over
	}
	m := new(big.Int).Abs(near).Int64()
	if m == most+1 {
		m, low = full, low+1
	}
	return impl.Fl{Kind: impl.FkNum, Neg: neg, M: int(m), E: low}, flags
}

// wantSumOf is the float of q, where a nought has the sign that the mode tells.
func wantSumOf(q frac, mode int) (impl.Fl, int) {
	if q.x.Sign() == 0 {
		return impl.Fl{Neg: mode == impl.RdDown}, 0
	}
	return wantFl(q, mode)
}

func sameFl(t *testing.T, name string, got impl.Fl, flags int, want impl.Fl, wantFlags int) {
	t.Helper()
	if got != want || flags != wantFlags {
		t.Fatalf("%s is %v with flags %d, not %v with %d", name, got, flags, want, wantFlags)
	}
	if !impl.FlOk(got) {
		t.Fatalf("%s is %v, which is not FlOk", name, got)
	}
}

func isBad(t *testing.T, name string, got impl.Fl, flags int) {
	t.Helper()
	sameFl(t, name, got, flags, nan, impl.FfBad)
}

func TestFlConstants(t *testing.T) {
	kinds := []int{impl.FkZero, impl.FkNum, impl.FkInf, impl.FkNan}
	flags := []int{impl.FfInexact, impl.FfOver, impl.FfUnder, impl.FfZero, impl.FfBad}
	if !slices.Equal(kinds, []int{0, 1, 2, 3}) || !slices.Equal(flags, []int{1, 2, 4, 8, 16}) {
		t.Fatal(kinds, flags)
	}
	if impl.MantBits != 53 || impl.LeastE != -1074 || impl.MostE != 971 {
		t.Fatal(impl.MantBits, impl.LeastE, impl.MostE)
	}
}

func TestFlOk(t *testing.T) {
	source := rand.New(rand.NewSource(50))
	for _, f := range edges() {
		if !impl.FlOk(f) {
			t.Fatal(f)
		}
	}
	for range 2000 {
		if f := anyFl(source); !impl.FlOk(f) {
			t.Fatal(f)
		}
	}
	for _, f := range badFls() {
		if impl.FlOk(f) {
			t.Fatal(f)
		}
	}
}

func samePacked(t *testing.T, f impl.Fl) {
	t.Helper()
	hi, lo, ok := impl.FlPack(f)
	want := math.Float64bits(ofGo(f))
	if f.Kind == impl.FkNan {
		want = 0x7ff8 << 48
	}
	if !ok || hi != int(want>>32) || lo != int(want&(1<<32-1)) {
		t.Fatalf("FlPack of %v: %x %x, not %x", f, hi, lo, want)
	}
	if back, ok := impl.FlUnpack(hi, lo); !ok || back != f {
		t.Fatalf("FlUnpack of %x %x is %v, not %v", hi, lo, back, f)
	}
}

func TestFlPackAndBack(t *testing.T) {
	for _, f := range edges() {
		samePacked(t, f)
	}
	source := rand.New(rand.NewSource(51))
	for range 20000 {
		samePacked(t, anyFl(source))
	}
	for _, f := range badFls() {
		if hi, lo, ok := impl.FlPack(f); hi != 0 || lo != 0 || ok {
			t.Fatal(f, hi, lo, ok)
		}
	}
}

func TestFlUnpackAndBack(t *testing.T) {
	source := rand.New(rand.NewSource(52))
	words := []int{0, 1, 2, 1<<20 - 1, 1 << 20, 1<<20 + 1, 0x7fefffff, 0x7ff00000, 0x7ff00001, 0x7ff80000, 0x7fffffff, 0x80000000, 0x80000001, 0x800fffff, 0x80100000,
		0xffefffff, 0xfff00000, 0xfff00001, 0xfff80000, 1<<32 - 2, 1<<32 - 1}
	for range 3000 {
		words = append(words, source.Intn(1<<32))
	}
	for i, hi := range words {
		for _, lo := range []int{0, 1, 1<<31 - 1, 1 << 31, 1<<32 - 1, words[(7*i+3)%len(words)]} {
			f, ok := impl.FlUnpack(hi, lo)
			want := fromGo(math.Float64frombits(uint64(hi)<<32 | uint64(lo)))
			if !ok || f != want || !impl.FlOk(f) {
				t.Fatalf("FlUnpack of %x, %x is %v, not %v", hi, lo, f, want)
			}
			back, rest, ok := impl.FlPack(f)
			if f.Kind == impl.FkNan {
				hi, lo = 0x7ff80000, 0
			}
			if !ok || back != hi || rest != lo {
				t.Fatalf("FlPack of %v is %x, %x, not %x, %x", f, back, rest, hi, lo)
			}
		}
	}
}

func TestFlUnpackLiterals(t *testing.T) {
	top := 1<<32 - 1
	rows := []struct {
		hi, lo int
		want   impl.Fl
		ok     bool
	}{
		{0, 0, nought, true}, {1 << 31, 0, minus0, true}, {0, 1, least, true}, {1 << 31, 1, num(-1, leastE), true}, {0x000fffff, top, num(full-1, leastE), true},
		{0x00100000, 0, small, true}, {0x00100000, 1, num(full+1, leastE), true}, {0x001fffff, top, num(most, leastE), true}, {0x00200000, 0, num(full, leastE+1), true},
		{0x3ff00000, 0, one, true}, {0xbff00000, 0, opposite(one), true}, {0x7fefffff, top, greatest, true}, {0xffefffff, top, opposite(greatest), true},
		{0x7ff00000, 0, inf, true}, {0xfff00000, 0, minusInf, true}, {0x7ff00000, 1, nan, true}, {0xfff00000, 1, nan, true}, {0x7ff80000, 0, nan, true},
		{0xfff80000, 0, nan, true}, {top, top, nan, true}, {0, top, num(1<<32-1, leastE), true}, {top, 0, nan, true},
		{-1, 0, nought, false}, {0, -1, nought, false}, {top + 1, 0, nought, false}, {0, top + 1, nought, false}, {-1, -1, nought, false}, {top + 1, top + 1, nought, false},
		{math.MinInt, 0, nought, false}, {0, math.MinInt, nought, false}, {math.MaxInt, 0, nought, false}, {0, math.MaxInt, nought, false},
		{0x3ff00000, -1, nought, false}, {0x3ff00000, top + 1, nought, false}, {0x3ff00000 + 1<<32, 0, nought, false}, {0x3ff00000 - 1<<32, 0, nought, false},
	}
	for _, row := range rows {
		if f, ok := impl.FlUnpack(row.hi, row.lo); f != row.want || ok != row.ok {
			t.Fatalf("%x %x: %v %t", row.hi, row.lo, f, ok)
		}
	}
}

func TestFlPackLiterals(t *testing.T) {
	rows := []struct {
		f      impl.Fl
		hi, lo int
	}{
		{nought, 0, 0}, {minus0, 1 << 31, 0}, {inf, 0x7ff00000, 0}, {minusInf, 0xfff00000, 0}, {nan, 0x7ff80000, 0}, {one, 0x3ff00000, 0},
		{opposite(num(3<<51, -52)), 0xbff80000, 0}, {least, 0, 1}, {num(full-1, leastE), 0xfffff, 1<<32 - 1}, {small, 0x100000, 0}, {greatest, 0x7fefffff, 1<<32 - 1},
	}
	for _, row := range rows {
		if hi, lo, ok := impl.FlPack(row.f); hi != row.hi || lo != row.lo || !ok {
			t.Fatalf("%v: %x %x %t", row.f, hi, lo, ok)
		}
	}
}

func TestFlDy(t *testing.T) {
	source := rand.New(rand.NewSource(53))
	list := edges()
	for range 3000 {
		list = append(list, anyFl(source))
	}
	for _, f := range list {
		d, ok := impl.FlDy(f)
		if ok != isFinite(f) {
			t.Fatal(f, ok)
		}
		if !ok {
			refusedDy(t, "FlDy", d, ok)
			continue
		}
		sameDy(t, fmt.Sprint("FlDy of ", f), d, whole2(f), leastE)
	}
	for _, f := range append(badFls(), inf, minusInf, nan) {
		d, ok := impl.FlDy(f)
		refusedDy(t, fmt.Sprint("FlDy of ", f), d, ok)
	}
}

// packed is the 64 bits as one number.
func packed(f impl.Fl) uint64 {
	hi, lo, _ := impl.FlPack(f)
	return uint64(hi)<<32 | uint64(lo)
}

func sameOrder(t *testing.T, a impl.Fl, b impl.Fl) {
	t.Helper()
	x, y := ofGo(a), ofGo(b)
	want, is := 0, !math.IsNaN(x) && !math.IsNaN(y)
	if is && x < y {
		want = -1
	} else if is && x > y {
		want = 1
	}
	got, ok := impl.FlCmp(a, b)
	if got != want || ok != is {
		t.Fatalf("FlCmp of %v and %v is %d and %t", a, b, got, ok)
	}
	if !ok {
		return
	}
	if isFinite(a) && isFinite(b) {
		c, _ := impl.FlDy(a)
		d, _ := impl.FlDy(b)
		if impl.DyCmp(c, d) != got {
			t.Fatalf("%v and %v are not in the order of their numbers", a, b)
		}
	}
	if !a.Neg && !b.Neg {
		if p, q := packed(a), packed(b); (p < q) != (got < 0) || (p > q) != (got > 0) {
			t.Fatalf("%v and %v are not in the order of their bits", a, b)
		}
	}
}

func TestFlOrder(t *testing.T) {
	list := edges()
	for _, a := range list {
		for _, b := range list {
			sameOrder(t, a, b)
		}
	}
	source := rand.New(rand.NewSource(54))
	for range 20000 {
		a, b := somePair(source)
		sameOrder(t, a, b)
		sameOrder(t, a, a)
		sameOrder(t, a, impl.FlNext(a))
		sameOrder(t, impl.FlNext(a), a)
	}
}

func TestFlCmpLiterals(t *testing.T) {
	rows := []struct {
		a, b impl.Fl
		want int
		ok   bool
	}{
		{nought, minus0, 0, true}, {minus0, nought, 0, true}, {minus0, minus0, 0, true}, {inf, inf, 0, true}, {minusInf, minusInf, 0, true}, {inf, minusInf, 1, true},
		{minusInf, inf, -1, true}, {greatest, inf, -1, true}, {minusInf, opposite(greatest), -1, true}, {minus0, least, -1, true}, {opposite(least), minus0, -1, true},
		{opposite(least), nought, -1, true}, {num(most, 0), num(full, 1), -1, true}, {num(-most, 0), num(-full, 1), 1, true}, {num(full-1, leastE), small, -1, true},
		{nan, nan, 0, false}, {nan, one, 0, false}, {one, nan, 0, false}, {inf, nan, 0, false}, {nan, minusInf, 0, false}, {nan, nought, 0, false},
	}
	for _, row := range rows {
		if got, ok := impl.FlCmp(row.a, row.b); got != row.want || ok != row.ok {
			t.Fatal(row, got, ok)
		}
	}
}

// sameFloatOf asks what the document's words make of d, and what the promise says.
func sameFloatOf(t *testing.T, d impl.Dy, mode int) {
	t.Helper()
	got, flags, ok := impl.FlRound(d, mode)
	name := fmt.Sprintf("FlRound of %v, %d", d, mode)
	if !ok {
		t.Fatal(name, "is refused")
	}
	if len(d.M.A.L) == 0 {
		sameFl(t, name, got, flags, nought, 0)
		return
	}
	want, wantFlags := wantFl(fracOfDy(d), mode)
	sameFl(t, name, got, flags, want, wantFlags)
	down, _, _ := impl.FlRound(d, impl.RdDown)
	up, _, _ := impl.FlRound(d, impl.RdUp)
	if flags&inex == 0 {
		if back, ok := impl.FlDy(got); !ok || !equalDys(back, d) || down != got || up != got || flags != 0 {
			t.Fatal(name, "is", got, "without flags")
		}
		return
	}
	if got != down && got != up {
		t.Fatal(name, "is none of the two next to it")
	}
	// -0 and 0 are one, and have one next.
	if next := impl.FlNext(down); next != up && !(next.Kind == impl.FkZero && up.Kind == impl.FkZero) {
		t.Fatal(name, "lies between", down, up)
	}
	strictlyBetween(t, down, d, up)
}

func strictlyBetween(t *testing.T, down impl.Fl, d impl.Dy, up impl.Fl) {
	t.Helper()
	if low, ok := impl.FlDy(down); ok && impl.DyCmp(low, d) >= 0 || !ok && down != minusInf {
		t.Fatal(down, "is not below", d)
	}
	if high, ok := impl.FlDy(up); ok && impl.DyCmp(high, d) <= 0 || !ok && up != inf {
		t.Fatal(up, "is not above", d)
	}
}

func TestFlRoundOfFloats(t *testing.T) {
	source := rand.New(rand.NewSource(55))
	list := edges()
	for range 2000 {
		list = append(list, anyFl(source))
	}
	for _, f := range list {
		d, ok := impl.FlDy(f)
		if !ok {
			continue
		}
		for _, mode := range modes() {
			got, flags, ok := impl.FlRound(d, mode)
			want := f
			if f.Kind == impl.FkZero {
				want = nought
			}
			if sameFl(t, "FlRound of a float", got, flags, want, 0); !ok {
				t.Fatal(f)
			}
		}
	}
}

func TestFlRoundOfAny(t *testing.T) {
	source := rand.New(rand.NewSource(56))
	for _, d := range manyDys() {
		for _, mode := range modes() {
			sameFloatOf(t, d, mode)
		}
	}
	for range 3000 {
		d := someDy(source, 8, 1300)
		for _, mode := range modes() {
			sameFloatOf(t, d, mode)
		}
	}
}

// What lies at, above and below every eighth of the way from a float to the next one, and a hair beside that.
func TestFlRoundBetweenFloats(t *testing.T) {
	source := rand.New(rand.NewSource(57))
	list := edgeNumbers()
	for range 300 {
		list = append(list, anyFl(source))
	}
	for _, f := range list {
		if !isFinite(f) {
			continue
		}
		f.Neg = false
		m, e := big.NewInt(int64(f.M)), f.E
		if f.Kind == impl.FkZero {
			e = leastE
		}
		for eighth := range int64(9) {
			n := plus(new(big.Int).Lsh(m, 3), eighth)
			for _, hair := range []int64{-1, 0, 1} {
				x := plus(new(big.Int).Lsh(n, 200), hair)
				for _, mode := range modes() {
					sameFloatOf(t, dy(x, e-203), mode)
					sameFloatOf(t, dy(minus(x), e-203), mode)
				}
			}
		}
	}
}

// flRow has what a number becomes in RdEven, RdZero, RdUp, RdDown, RdAway, and the flags of all of them.
type flRow struct {
	name  string
	n     *big.Int
	e     int
	want  [5]impl.Fl
	flags int
}

// mirrored is the opposite of it: RdUp and RdDown change places.
func (r flRow) mirrored() flRow {
	w := r.want
	w[impl.RdUp], w[impl.RdDown] = w[impl.RdDown], w[impl.RdUp]
	for i := range w {
		w[i].Neg = !w[i].Neg
	}
	return flRow{"the opposite of " + r.name, minus(r.n), r.e, w, r.flags}
}

func each(f impl.Fl) [5]impl.Fl { return [5]impl.Fl{f, f, f, f, f} }

// lowUp: RdZero, RdUp and RdDown are those of a number above 0; even and away say what is nearest.
func lowUp(even impl.Fl, low impl.Fl, up impl.Fl, away impl.Fl) [5]impl.Fl {
	return [5]impl.Fl{even, low, up, low, away}
}

func flRows() []flRow {
	int1 := big.NewInt
	zero := nought
	rows := []flRow{
		{"the least", int1(1), -1074, each(least), 0},
		{"half the least", int1(1), -1075, lowUp(zero, zero, least, least), under},
		{"more than half the least", int1(9), -1078, lowUp(least, zero, least, least), under},
		{"less than half the least", int1(7), -1078, lowUp(zero, zero, least, zero), under},
		{"far below the least", int1(1), -3000, lowUp(zero, zero, least, zero), under},
		{"one and a half of the least", int1(3), -1075, lowUp(num(2, leastE), least, num(2, leastE), num(2, leastE)), under},
		{"two and a half of the least", int1(5), -1075, lowUp(num(2, leastE), num(2, leastE), num(3, leastE), num(3, leastE)), under},
		{"three of the least", int1(3), -1074, each(num(3, leastE)), 0},
		{"2^-1022", int1(1), -1022, each(small), 0},
		{"2^-1022 without the least", int1(full - 1), -1074, each(num(full-1, leastE)), 0},
		{"2^-1022 without half the least", int1(2*full - 1), -1075, lowUp(small, num(full-1, leastE), small, small), under},
		{"2^-1022 without a quarter of the least", int1(4*full - 1), -1076, lowUp(small, num(full-1, leastE), small, small), under},
		{"2^-1022 without three quarters of the least", int1(4*full - 3), -1076, lowUp(num(full-1, leastE), num(full-1, leastE), small, num(full-1, leastE)), under},
		{"2^-1022 without nearly nothing", plus(two(1000), -1), -2022, lowUp(small, num(full-1, leastE), small, small), under},
		{"2^-1022 and nearly nothing", plus(two(1000), 1), -2022, lowUp(small, small, num(full+1, leastE), small), inex},
		{"2^-1022 and half the least", int1(2*full + 1), -1075, lowUp(small, small, num(full+1, leastE), num(full+1, leastE)), inex},
		{"2^-1021 without a quarter of the least", int1(8*full - 1), -1076, lowUp(num(full, leastE+1), num(most, leastE), num(full, leastE+1), num(full, leastE+1)), inex},
		{"1 and half of its step", plus(two(53), 1), -53, lowUp(one, one, num(full+1, -52), num(full+1, -52)), inex},
		{"1 and one and a half", plus(two(53), 3), -53, lowUp(num(full+2, -52), num(full+1, -52), num(full+2, -52), num(full+2, -52)), inex},
		{"1 and nearly nothing", plus(two(1500), 1), -1500, lowUp(one, one, num(full+1, -52), one), inex},
		{"2 without half of the step below", plus(two(54), -1), -53, lowUp(num(full, -51), num(most, -52), num(full, -51), num(full, -51)), inex},
		{"2 without three quarters of it", plus(two(55), -3), -54, lowUp(num(most, -52), num(most, -52), num(full, -51), num(most, -52)), inex},
		{"2 without nearly nothing", plus(two(1500), -1), -1499, lowUp(num(full, -51), num(most, -52), num(full, -51), num(full, -51)), inex},
		{"the greatest", plus(two(53), -1), 971, each(greatest), 0},
	}
	return append(rows, flRowsAtTheTop()...)
}

func flRowsAtTheTop() []flRow {
	return []flRow{
		{"the greatest and nearly nothing", plus(new(big.Int).Lsh(plus(two(53), -1), 1000), 1), -29, lowUp(greatest, greatest, inf, greatest), 0},
		{"the greatest and less than half", plus(two(60), -65), 964, lowUp(greatest, greatest, inf, greatest), 0},
		{"the greatest and half", plus(two(54), -1), 970, lowUp(inf, greatest, inf, inf), 0},
		{"2^1024 without nearly nothing", plus(two(1500), -1), -476, lowUp(inf, greatest, inf, inf), 0},
		{"2^1024", big.NewInt(1), 1024, lowUp(inf, greatest, inf, inf), over},
		{"2^1024 and more", plus(two(100), 1), 924, lowUp(inf, greatest, inf, inf), over},
		{"2^1025", big.NewInt(1), 1025, lowUp(inf, greatest, inf, inf), over},
		{"2^3000", big.NewInt(1), 3000, lowUp(inf, greatest, inf, inf), over},
		{"3 times 2^3000", big.NewInt(3), 3000, lowUp(inf, greatest, inf, inf), over},
		{"the greatest dyadic number", mostNat(), 3000, lowUp(inf, greatest, inf, inf), over},
	}
}

// flagsOf is over where a number below 2^1024 was rounded to that, and FfInexact alone where it was rounded down.
func (r flRow) flagsOf(mode int) int {
	switch {
	case r.flags != 0 || r.want == each(greatest) || r.want == each(opposite(greatest)):
		return r.flags
	case r.want[mode].Kind == impl.FkInf:
		return over
	case r.want[mode].M == most && r.want[mode].E == mostE:
		return inex
	}
	return 0
}

func TestFlRoundLiterals(t *testing.T) {
	for _, row := range flRows() {
		for _, r := range []flRow{row, row.mirrored()} {
			for mode, want := range r.want {
				got, flags, ok := impl.FlRound(dy(r.n, r.e), mode)
				if !ok {
					t.Fatal(r.name)
				}
				sameFl(t, fmt.Sprint(r.name, " in ", mode), got, flags, want, r.flagsOf(mode))
				sameFloatOf(t, dy(r.n, r.e), mode)
			}
		}
	}
}

func TestFlRoundWrong(t *testing.T) {
	refused := func(d impl.Dy, mode int) {
		t.Helper()
		if f, flags, ok := impl.FlRound(d, mode); f != nought || flags != 0 || ok {
			t.Fatal(d, mode, f, flags, ok)
		}
	}
	for _, d := range badDys() {
		for _, mode := range append(modes(), -1, 5) {
			refused(d, mode)
		}
	}
	for _, mode := range badModes() {
		for _, d := range []impl.Dy{{}, dyInt(1, 0), dyInt(-3, -1100), dyInt(1, 1024), dyInt(1, 3000), dyInt(-1, -3000)} {
			refused(d, mode)
		}
	}
}

// A list's spare room, and what lies behind its length, is neither read nor written.
func TestFlRoundMemory(t *testing.T) {
	for _, n := range []*big.Int{big.NewInt(1), big.NewInt(-65535), plus(two(100), 1), minus(plus(two(500), -1)), mostNat()} {
		for _, e := range []int{-3000, -1600, -1074, -52, 0, 900, 3000} {
			for _, mode := range append(modes(), -1, 5) {
				d := dy(n, e)
				was := slices.Clone(d.M.A.L[:cap(d.M.A.L)])
				first, flags, ok := impl.FlRound(d, mode)
				sameLists(t, "FlRound", d.M.A, was)
				second, again, is := impl.FlRound(impl.Dy{M: impl.Whole{Neg: d.M.Neg, A: impl.Nat{L: slices.Clip(slices.Clone(d.M.A.L))}}, E: e}, mode)
				if first != second || flags != again || ok != is {
					t.Fatal(n, e, mode)
				}
			}
		}
	}
}

// sameTwo asks for sum, difference, product and quotient of two finite floats, in one mode, by the true number.
func sameTwo(t *testing.T, a impl.Fl, b impl.Fl, mode int) {
	t.Helper()
	name := fmt.Sprintf(" of %v and %v, %d", a, b, mode)
	want, wantFlags := wantSumOf(sumFrac(a, b), mode)
	if a.Kind == impl.FkZero && b.Kind == impl.FkZero && a.Neg == b.Neg {
		want = a
	}
	got, flags := impl.FlAdd(a, b, mode)
	sameFl(t, "FlAdd"+name, got, flags, want, wantFlags)
	got, flags = impl.FlAdd(b, a, mode)
	sameFl(t, "FlAdd, the other way round,"+name, got, flags, want, wantFlags)
	got, flags = impl.FlSub(a, opposite(b), mode)
	sameFl(t, "FlSub of the opposite"+name, got, flags, want, wantFlags)
	want, wantFlags = impl.Fl{Neg: a.Neg != b.Neg}, 0
	if a.Kind == impl.FkNum && b.Kind == impl.FkNum {
		want, wantFlags = wantFl(productFrac(a, b), mode)
	}
	got, flags = impl.FlMul(a, b, mode)
	sameFl(t, "FlMul"+name, got, flags, want, wantFlags)
	got, flags = impl.FlMul(b, a, mode)
	sameFl(t, "FlMul, the other way round,"+name, got, flags, want, wantFlags)
	if a.Kind == impl.FkNum && b.Kind == impl.FkNum {
		want, wantFlags = wantFl(quotientFrac(a, b), mode)
		got, flags = impl.FlDiv(a, b, mode)
		sameFl(t, "FlDiv"+name, got, flags, want, wantFlags)
	}
}

func TestFlPairsOfEdges(t *testing.T) {
	list := slices.DeleteFunc(edges(), func(f impl.Fl) bool { return !isFinite(f) })
	for i, a := range list {
		for j, b := range list {
			// Every pair has a mode, and pairs of small ones, of great ones, of noughts have all of them.
			for _, mode := range modes() {
				if (i+j)%5 == mode || i < 34 && j < 34 || i > len(list)-30 && (j < 30 || j > len(list)-30) {
					sameTwo(t, a, b, mode)
				}
			}
		}
	}
}

func TestFlPairsAtRandom(t *testing.T) {
	source := rand.New(rand.NewSource(58))
	for range 4000 {
		a, b := somePair(source)
		if !isFinite(a) || !isFinite(b) {
			continue
		}
		for _, mode := range modes() {
			sameTwo(t, a, b, mode)
		}
	}
}

// Go's own floats round as RdEven does.
func TestFlAgainstGo(t *testing.T) {
	source := rand.New(rand.NewSource(59))
	check := func(a impl.Fl, b impl.Fl, c impl.Fl) {
		t.Helper()
		x, y, z := ofGo(a), ofGo(b), ofGo(c)
		rows := []struct {
			name string
			call func() (impl.Fl, int)
			want float64
		}{
			{"FlAdd", func() (impl.Fl, int) { return impl.FlAdd(a, b, impl.RdEven) }, x + y},
			{"FlSub", func() (impl.Fl, int) { return impl.FlSub(a, b, impl.RdEven) }, x - y},
			{"FlMul", func() (impl.Fl, int) { return impl.FlMul(a, b, impl.RdEven) }, x * y},
			{"FlDiv", func() (impl.Fl, int) { return impl.FlDiv(a, b, impl.RdEven) }, x / y},
			{"FlFma", func() (impl.Fl, int) { return impl.FlFma(a, b, c, impl.RdEven) }, math.FMA(x, y, z)},
			{"FlSqrt", func() (impl.Fl, int) { return impl.FlSqrt(a, impl.RdEven) }, math.Sqrt(x)},
		}
		for _, row := range rows {
			if got, _ := row.call(); got != fromGo(row.want) {
				t.Fatalf("%s of %v, %v, %v is %v, not %v", row.name, a, b, c, got, fromGo(row.want))
			}
		}
	}
	list := edges()
	for i, a := range list {
		for j, b := range list {
			check(a, b, list[(5*i+3*j)%len(list)])
		}
	}
	for range 6000 {
		a, b := somePair(source)
		check(a, b, anyFl(source))
	}
}

// sameFma asks it of three finite floats.
func sameFma(t *testing.T, a impl.Fl, b impl.Fl, c impl.Fl, mode int) {
	t.Helper()
	want, wantFlags := wantSumOf(fmaFrac(a, b, c), mode)
	if (a.Kind == impl.FkZero || b.Kind == impl.FkZero) && c.Kind == impl.FkZero && (a.Neg != b.Neg) == c.Neg {
		want = c
	}
	got, flags := impl.FlFma(a, b, c, mode)
	sameFl(t, fmt.Sprintf("FlFma of %v, %v, %v, %d", a, b, c, mode), got, flags, want, wantFlags)
	got, flags = impl.FlFma(b, a, c, mode)
	sameFl(t, fmt.Sprintf("FlFma of %v, %v, %v, %d", b, a, c, mode), got, flags, want, wantFlags)
}

func TestFlFmaAtRandom(t *testing.T) {
	source := rand.New(rand.NewSource(60))
	for i := range 6000 {
		a, b := somePair(source)
		c := anyFl(source)
		switch i % 4 {
		case 0:
			// c is what the product is, rounded, with the other sign: what is left is what rounding took.
			c, _ = impl.FlMul(a, b, i%5)
			c.Neg = !c.Neg
		case 1:
			c = someFl(source, a.E+b.E+53, 120)
		}
		if !isFinite(a) || !isFinite(b) || !isFinite(c) {
			continue
		}
		for _, mode := range modes() {
			sameFma(t, a, b, c, mode)
		}
	}
}

func TestFlFmaOfEdges(t *testing.T) {
	list := []impl.Fl{nought, least, num(3, leastE), num(full-1, leastE), small, num(most, -1000), num(full, -537), num(full+1, -537), num(most, -53), one, num(full+1, -52), num(full, 459),
		num(most, 460), num(full, mostE), greatest}
	for _, f := range slices.Clone(list) {
		list = append(list, opposite(f))
	}
	for i, a := range list {
		for j, b := range list {
			for k, c := range list {
				sameFma(t, a, b, c, (i+j+k)%5)
			}
		}
	}
}

func TestFlFmaLiterals(t *testing.T) {
	three, five, fifteen := num(3<<51, -51), num(5<<50, -50), num(15<<49, -49)
	half := num(full, -53)
	rows := []struct {
		name    string
		a, b, c impl.Fl
		want    [5]impl.Fl
		flags   int
	}{
		{"3 times 5 without 15", three, five, opposite(fifteen), [5]impl.Fl{nought, nought, nought, minus0, nought}, 0},
		{"-3 times 5 and 15", opposite(three), five, fifteen, [5]impl.Fl{nought, nought, nought, minus0, nought}, 0},
		{"0 times 1 and 0", nought, one, nought, each(nought), 0},
		{"0 times -1 and -0", nought, opposite(one), minus0, each(minus0), 0},
		{"-0 times -0 and 0", minus0, minus0, nought, each(nought), 0},
		{"-0 times 0 and -0", minus0, nought, minus0, each(minus0), 0},
		{"0 times 1 and -0", nought, one, minus0, [5]impl.Fl{nought, nought, nought, minus0, nought}, 0},
		{"0 times -1 and 0", one, minus0, nought, [5]impl.Fl{nought, nought, nought, minus0, nought}, 0},
		{"0 times 3 and 5", nought, three, five, each(five), 0},
		{"-0 times 3 and the least", minus0, three, least, each(least), 0},
		{"a product that would be rounded", num(full+1, -52), num(most, -53), opposite(one), each(num(most-1, -106)), 0},
		{"a square that would be rounded", num(full+1, -52), num(full+1, -52), opposite(num(full+2, -52)), each(num(full, -156)), 0},
		{"a product beyond, brought back", greatest, num(full, -51), opposite(greatest), each(greatest), 0},
		{"2^1024 without the step", num(full, mostE), num(full, -51), opposite(num(full, mostE-52)), each(greatest), 0},
		{"2^1024 without half the step", num(full, mostE), num(full, -51), opposite(num(full, mostE-53)), lowUp(inf, greatest, inf, inf), -1},
		{"a product below the least, and 0", least, least, nought, lowUp(nought, nought, least, nought), under},
		{"a product below the least, and -0", least, half, minus0, lowUp(nought, nought, least, least), under},
		{"the least and hardly more", least, least, least, lowUp(least, least, num(2, leastE), least), under},
		{"1 and hardly more", least, least, one, lowUp(one, one, num(full+1, -52), one), inex},
		{"2^-1022 and half the least", least, half, small, lowUp(small, small, num(full+1, leastE), num(full+1, leastE)), inex},
		{"2^-1022 without half the least", least, opposite(half), small, lowUp(small, num(full-1, leastE), small, small), under},
	}
	for _, row := range rows {
		for mode, want := range row.want {
			flags := row.flags
			if flags == -1 {
				flags = flRow{want: row.want}.flagsOf(mode)
			}
			got, is := impl.FlFma(row.a, row.b, row.c, mode)
			sameFl(t, fmt.Sprint(row.name, " in ", mode), got, is, want, flags)
			got, is = impl.FlFma(row.b, row.a, row.c, mode)
			sameFl(t, fmt.Sprint(row.name, " in ", mode), got, is, want, flags)
		}
	}
	// Below 0, what is below the least in size rounds to -0, whichever nought c is.
	for mode, want := range []impl.Fl{minus0, minus0, minus0, opposite(least), minus0} {
		for _, c := range []impl.Fl{nought, minus0} {
			got, flags := impl.FlFma(least, opposite(least), c, mode)
			sameFl(t, "a product above the least of -", got, flags, want, under)
		}
	}
}

func TestFlNoughtsAsSums(t *testing.T) {
	source := rand.New(rand.NewSource(61))
	list := slices.DeleteFunc(edges(), func(f impl.Fl) bool { return f.Kind != impl.FkNum })
	for range 500 {
		list = append(list, someFl(source, 0, 1100))
	}
	for _, mode := range modes() {
		byMode := impl.Fl{Neg: mode == impl.RdDown}
		for _, x := range list {
			got, flags := impl.FlSub(x, x, mode)
			sameFl(t, "x - x", got, flags, byMode, 0)
			got, flags = impl.FlAdd(x, opposite(x), mode)
			sameFl(t, "x and its opposite", got, flags, byMode, 0)
			for _, zero := range []impl.Fl{nought, minus0} {
				got, flags = impl.FlAdd(x, zero, mode)
				sameFl(t, "x + 0", got, flags, x, 0)
				got, flags = impl.FlAdd(zero, x, mode)
				sameFl(t, "0 + x", got, flags, x, 0)
				got, flags = impl.FlSub(x, zero, mode)
				sameFl(t, "x - 0", got, flags, x, 0)
				got, flags = impl.FlSub(zero, x, mode)
				sameFl(t, "0 - x", got, flags, opposite(x), 0)
			}
		}
		rows := []struct{ a, b, sum, rest impl.Fl }{
			{nought, nought, nought, byMode}, {minus0, minus0, minus0, byMode}, {nought, minus0, byMode, nought}, {minus0, nought, byMode, minus0},
		}
		for _, row := range rows {
			got, flags := impl.FlAdd(row.a, row.b, mode)
			sameFl(t, fmt.Sprint("a sum of noughts ", row, mode), got, flags, row.sum, 0)
			got, flags = impl.FlSub(row.a, row.b, mode)
			sameFl(t, fmt.Sprint("a difference of noughts ", row, mode), got, flags, row.rest, 0)
		}
	}
}

func TestFlSumsAtTheTop(t *testing.T) {
	step := num(full, mostE-52) // the step between the greatest numbers: 2^971
	hair := num(most, mostE-54) // less than half of it
	halfStep := num(full, mostE-53)
	rows := []struct {
		name string
		a, b impl.Fl
		want [5]impl.Fl
		all  int
	}{
		{"the greatest and a step", greatest, step, lowUp(inf, greatest, inf, inf), over},
		{"the greatest and half a step", greatest, halfStep, lowUp(inf, greatest, inf, inf), 0},
		{"the greatest and less than half", greatest, hair, lowUp(greatest, greatest, inf, greatest), 0},
		{"the greatest and the least", greatest, least, lowUp(greatest, greatest, inf, greatest), 0},
		{"the greatest twice", greatest, greatest, lowUp(inf, greatest, inf, inf), over},
	}
	for _, row := range rows {
		for mode, want := range row.want {
			flags := flRow{want: row.want, flags: row.all}.flagsOf(mode)
			got, is := impl.FlAdd(row.a, row.b, mode)
			sameFl(t, fmt.Sprint(row.name, " in ", mode), got, is, want, flags)
			mirror := []int{impl.RdEven, impl.RdZero, impl.RdDown, impl.RdUp, impl.RdAway}[mode]
			got, is = impl.FlSub(opposite(row.a), row.b, mirror)
			sameFl(t, fmt.Sprint("the opposite of ", row.name, " in ", mirror), got, is, opposite(want), flags)
		}
	}
}

func TestFlProductsAndQuotientsLiterals(t *testing.T) {
	twice := num(full, -51)
	below1 := num(most, -53)
	rows := []struct {
		name  string
		call  func(a impl.Fl, b impl.Fl, mode int) (impl.Fl, int)
		a, b  impl.Fl
		want  [5]impl.Fl
		flags int
	}{
		{"half the least", impl.FlDiv, least, twice, lowUp(nought, nought, least, least), under},
		{"a third of the least", impl.FlDiv, least, num(3<<51, -51), lowUp(nought, nought, least, nought), under},
		{"two thirds of the least", impl.FlDiv, num(2, leastE), num(3<<51, -51), lowUp(least, nought, least, least), under},
		{"the least by the greatest", impl.FlDiv, least, greatest, lowUp(nought, nought, least, nought), under},
		{"the least squared", impl.FlMul, least, least, lowUp(nought, nought, least, nought), under},
		{"2^-1022 times a bit less than 1", impl.FlMul, small, below1, lowUp(small, num(full-1, leastE), small, small), under},
		{"half of what is just below 2^-1021", impl.FlDiv, num(most, leastE), twice, lowUp(small, num(full-1, leastE), small, small), under},
		{"half of 2^-1022", impl.FlDiv, small, twice, each(num(full/2, leastE)), 0},
		{"half of an even M", impl.FlDiv, num(6, leastE), twice, each(num(3, leastE)), 0},
		{"1 by 2^-1074", impl.FlDiv, one, least, lowUp(inf, greatest, inf, inf), over},
		{"the greatest by the least", impl.FlDiv, greatest, least, lowUp(inf, greatest, inf, inf), over},
		{"the greatest squared", impl.FlMul, greatest, greatest, lowUp(inf, greatest, inf, inf), over},
		{"the greatest by a bit less than 1", impl.FlDiv, greatest, below1, lowUp(inf, greatest, inf, inf), over},
		{"the greatest by 1", impl.FlDiv, greatest, one, each(greatest), 0},
		{"a third", impl.FlDiv, one, num(3<<51, -51), lowUp(num(6004799503160661, -54), num(6004799503160661, -54), num(6004799503160662, -54), num(6004799503160661, -54)), inex},
		{"just above 1 squared", impl.FlMul, num(full+1, -52), num(full+1, -52), lowUp(num(full+2, -52), num(full+2, -52), num(full+3, -52), num(full+2, -52)), inex},
		{"1 by a bit less than 1", impl.FlDiv, one, below1, lowUp(num(full+1, -52), one, num(full+1, -52), num(full+1, -52)), inex},
		{"a number by itself", impl.FlDiv, num(most, 7), num(most, 7), each(one), 0},
	}
	for _, row := range rows {
		for mode, want := range row.want {
			mirror := []int{impl.RdEven, impl.RdZero, impl.RdDown, impl.RdUp, impl.RdAway}[mode]
			got, flags := row.call(row.a, row.b, mode)
			sameFl(t, fmt.Sprint(row.name, " in ", mode), got, flags, want, row.flags)
			got, flags = row.call(opposite(row.a), opposite(row.b), mode)
			sameFl(t, fmt.Sprint(row.name, " of two signs in ", mode), got, flags, want, row.flags)
			got, flags = row.call(opposite(row.a), row.b, mirror)
			sameFl(t, fmt.Sprint("the opposite of ", row.name, " in ", mirror), got, flags, opposite(want), row.flags)
			got, flags = row.call(row.a, opposite(row.b), mirror)
			sameFl(t, fmt.Sprint("the opposite of ", row.name, " in ", mirror), got, flags, opposite(want), row.flags)
		}
	}
}

// Kinds in the order of the tables below.
func kindsInOrder() []impl.Fl {
	return []impl.Fl{nan, inf, minusInf, nought, minus0, num(3<<51, -51), num(-5<<50, -50)}
}

// told reads a word of the tables below; . is what must be reckoned.
func told(t *testing.T, word string, mode int) (impl.Fl, int) {
	t.Helper()
	switch word {
	case "nan":
		return nan, 0
	case "bad":
		return nan, impl.FfBad
	case "inf":
		return inf, 0
	case "-inf":
		return minusInf, 0
	case "INF":
		return inf, impl.FfZero
	case "-INF":
		return minusInf, impl.FfZero
	case "0":
		return nought, 0
	case "-0":
		return minus0, 0
	case "0m":
		return impl.Fl{Neg: mode == impl.RdDown}, 0
	case "3":
		return num(3<<51, -51), 0
	case "-3":
		return num(-3<<51, -51), 0
	case "5":
		return num(5<<50, -50), 0
	case "-5":
		return num(-5<<50, -50), 0
	}
	t.Fatal(word)
	return nan, 0
}

func TestFlKindsOfTwo(t *testing.T) {
	rows := []struct {
		name string
		call func(a impl.Fl, b impl.Fl, mode int) (impl.Fl, int)
		want [7][7]string // b goes along a row
	}{
		{"FlAdd", impl.FlAdd, [7][7]string{
			{"nan", "nan", "nan", "nan", "nan", "nan", "nan"},
			{"nan", "inf", "bad", "inf", "inf", "inf", "inf"},
			{"nan", "bad", "-inf", "-inf", "-inf", "-inf", "-inf"},
			{"nan", "inf", "-inf", "0", "0m", "3", "-5"},
			{"nan", "inf", "-inf", "0m", "-0", "3", "-5"},
			{"nan", "inf", "-inf", "3", "3", ".", "."},
			{"nan", "inf", "-inf", "-5", "-5", ".", "."}}},
		{"FlSub", impl.FlSub, [7][7]string{
			{"nan", "nan", "nan", "nan", "nan", "nan", "nan"},
			{"nan", "bad", "inf", "inf", "inf", "inf", "inf"},
			{"nan", "-inf", "bad", "-inf", "-inf", "-inf", "-inf"},
			{"nan", "-inf", "inf", "0m", "0", "-3", "5"},
			{"nan", "-inf", "inf", "-0", "0m", "-3", "5"},
			{"nan", "-inf", "inf", "3", "3", ".", "."},
			{"nan", "-inf", "inf", "-5", "-5", ".", "."}}},
		{"FlMul", impl.FlMul, [7][7]string{
			{"nan", "nan", "nan", "nan", "nan", "nan", "nan"},
			{"nan", "inf", "-inf", "bad", "bad", "inf", "-inf"},
			{"nan", "-inf", "inf", "bad", "bad", "-inf", "inf"},
			{"nan", "bad", "bad", "0", "-0", "0", "-0"},
			{"nan", "bad", "bad", "-0", "0", "-0", "0"},
			{"nan", "inf", "-inf", "0", "-0", ".", "."},
			{"nan", "-inf", "inf", "-0", "0", ".", "."}}},
		{"FlDiv", impl.FlDiv, [7][7]string{
			{"nan", "nan", "nan", "nan", "nan", "nan", "nan"},
			{"nan", "bad", "bad", "inf", "-inf", "inf", "-inf"},
			{"nan", "bad", "bad", "-inf", "inf", "-inf", "inf"},
			{"nan", "0", "-0", "bad", "bad", "0", "-0"},
			{"nan", "-0", "0", "bad", "bad", "-0", "0"},
			{"nan", "0", "-0", "INF", "-INF", ".", "."},
			{"nan", "-0", "0", "-INF", "INF", ".", "."}}},
	}
	for _, row := range rows {
		for i, a := range kindsInOrder() {
			for j, b := range kindsInOrder() {
				for _, mode := range modes() {
					if row.want[i][j] == "." {
						continue
					}
					want, wantFlags := told(t, row.want[i][j], mode)
					got, flags := row.call(a, b, mode)
					sameFl(t, fmt.Sprint(row.name, a, b, mode), got, flags, want, wantFlags)
				}
			}
		}
	}
}

// The rows are those of a times b; c goes through all kinds.
func TestFlKindsOfThree(t *testing.T) {
	kinds := kindsInOrder()
	product := [7][7]string{
		{"nan", "nan", "nan", "nan", "nan", "nan", "nan"},
		{"nan", "inf", "-inf", "bad", "bad", "inf", "-inf"},
		{"nan", "-inf", "inf", "bad", "bad", "-inf", "inf"},
		{"nan", "bad", "bad", "0", "-0", "0", "-0"},
		{"nan", "bad", "bad", "-0", "0", "-0", "0"},
		{"nan", "inf", "-inf", "0", "-0", ".", "."},
		{"nan", "-inf", "inf", "-0", "0", ".", "."},
	}
	withC := map[string][7]string{
		"nan":  {"nan", "nan", "nan", "nan", "nan", "nan", "nan"},
		"bad":  {"bad", "bad", "bad", "bad", "bad", "bad", "bad"},
		"inf":  {"nan", "inf", "bad", "inf", "inf", "inf", "inf"},
		"-inf": {"nan", "bad", "-inf", "-inf", "-inf", "-inf", "-inf"},
		"0":    {"nan", "inf", "-inf", "0", "0m", "3", "-5"},
		"-0":   {"nan", "inf", "-inf", "0m", "-0", "3", "-5"},
		".":    {"nan", "inf", "-inf", ".", ".", ".", "."},
	}
	for i, a := range kinds {
		for j, b := range kinds {
			for k, c := range kinds {
				for _, mode := range modes() {
					word := withC[product[i][j]][k]
					if word == "." {
						sameFma(t, a, b, c, mode)
						continue
					}
					want, wantFlags := told(t, word, mode)
					got, flags := impl.FlFma(a, b, c, mode)
					sameFl(t, fmt.Sprint("FlFma ", a, b, c, mode), got, flags, want, wantFlags)
				}
			}
		}
	}
	// A product that would be beyond FkInf is none: c counts alone.
	for _, mode := range modes() {
		got, flags := impl.FlFma(greatest, greatest, minusInf, mode)
		sameFl(t, "a great product and -FkInf", got, flags, minusInf, 0)
		got, flags = impl.FlFma(opposite(greatest), greatest, inf, mode)
		sameFl(t, "a great product and FkInf", got, flags, inf, 0)
	}
}

func TestFlKindsOfOne(t *testing.T) {
	for _, mode := range modes() {
		for i, want := range []string{"nan", "inf", "bad", "0", "-0", ".", "bad"} {
			if want == "." {
				continue
			}
			a := kindsInOrder()[i]
			f, flags := told(t, want, mode)
			got, is := impl.FlSqrt(a, mode)
			sameFl(t, fmt.Sprint("FlSqrt ", a), got, is, f, flags)
		}
		for _, f := range edgeNumbers() {
			got, flags := impl.FlSqrt(opposite(f), mode)
			isBad(t, "a root of what is below 0", got, flags)
		}
	}
}

// sameSqrt asks it of a number above 0. Its top is half of the number's, rounded up.
func sameSqrt(t *testing.T, a impl.Fl, mode int) {
	t.Helper()
	d := dy(whole2(a), leastE)
	low := (whole2(a).BitLen()+leastE+4001)/2 - 2000 - 53
	near := wantRoot(d, low, mode)
	square := new(big.Int).Mul(near, near)
	flags := inex
	if ratOf(d).Cmp(new(big.Rat).Mul(new(big.Rat).SetInt(square), ratOf(dyInt(1, 2*low)))) == 0 {
		flags = 0
	}
	want, wantFlags := wantKind(near, low, false, flags, mode)
	got, is := impl.FlSqrt(a, mode)
	sameFl(t, fmt.Sprintf("FlSqrt of %v, %d", a, mode), got, is, want, wantFlags)
}

func TestFlRoots(t *testing.T) {
	source := rand.New(rand.NewSource(62))
	list := edgeNumbers()
	for range 1200 {
		if f := anyFl(source); f.Kind == impl.FkNum {
			f.Neg = false
			list = append(list, f)
		}
	}
	for m := range 400 {
		list = append(list, num(m+1, leastE))
	}
	for range 400 {
		// Squares, and what is next to them.
		m := 1<<25 + source.Intn(1<<25)
		square, _ := impl.FlOfInt(m*m, impl.RdEven)
		list = append(list, square, impl.FlNext(square), num(square.M-1, square.E))
	}
	for _, a := range list {
		if !impl.FlOk(a) {
			continue
		}
		for _, mode := range modes() {
			sameSqrt(t, a, mode)
		}
	}
}

func TestFlRootLiterals(t *testing.T) {
	rows := []struct {
		name  string
		a     impl.Fl
		want  [5]impl.Fl
		flags int
	}{
		{"1", one, each(one), 0},
		{"4", num(full, -50), each(num(full, -51)), 0},
		{"9", num(9<<49, -49), each(num(3<<51, -51)), 0},
		{"a quarter", num(full, -54), each(num(full, -53)), 0},
		{"2", num(full, -51), lowUp(num(6369051672525773, -52), num(6369051672525772, -52), num(6369051672525773, -52), num(6369051672525773, -52)), inex},
		{"the least", least, each(num(full, -537-52)), 0},
		{"2^-1022", small, each(num(full, -511-52)), 0},
		{"2^1022", num(full, 970), each(num(full, 511-52)), 0},
		{"the greatest", greatest, lowUp(num(most, 459), num(most, 459), num(full, 460), num(most, 459)), inex},
		{"just above 1", num(full+1, -52), lowUp(one, one, num(full+1, -52), one), inex},
		{"just below 1", num(most, -53), lowUp(num(most, -53), num(most, -53), one, num(most, -53)), inex},
	}
	for _, row := range rows {
		for mode, want := range row.want {
			got, flags := impl.FlSqrt(row.a, mode)
			sameFl(t, fmt.Sprint("the root of ", row.name, " in ", mode), got, flags, want, row.flags)
		}
	}
}

// Neither is more than twice the other: the difference is the true one.
func TestFlNearDifferences(t *testing.T) {
	source := rand.New(rand.NewSource(63))
	check := func(a impl.Fl, b impl.Fl) {
		t.Helper()
		x, _ := impl.FlDy(a)
		y, _ := impl.FlDy(b)
		rest, ok := impl.DySub(x, y)
		if !ok {
			t.Fatal(a, b)
		}
		for _, mode := range modes() {
			got, flags := impl.FlSub(a, b, mode)
			d, is := impl.FlDy(got)
			if flags != 0 || !is || !equalDys(d, rest) {
				t.Fatalf("FlSub of %v and %v in %d is %v with flags %d", a, b, mode, got, flags)
			}
		}
	}
	two := num(full, -51)
	list := slices.DeleteFunc(edges(), func(f impl.Fl) bool { return !isFinite(f) })
	for range 4000 {
		list = append(list, someFl(source, []int{leastE, leastE + 1, -50, 300, mostE}[source.Intn(5)], 3))
	}
	for _, a := range list {
		check(a, a)
		if next := impl.FlNext(a); isFinite(next) {
			check(a, next)
			check(next, a)
		}
		if double, flags := impl.FlMul(a, two, impl.RdEven); flags == 0 {
			check(a, double)
			check(double, a)
		}
	}
	for range 8000 {
		a := someFl(source, []int{leastE, leastE + 1, -50, 300, mostE}[source.Intn(5)], 3)
		b := someFl(source, a.E, 1)
		b.Neg = a.Neg
		x, y := new(big.Int).Abs(whole2(a)), new(big.Int).Abs(whole2(b))
		if x.Cmp(new(big.Int).Lsh(y, 1)) <= 0 && y.Cmp(new(big.Int).Lsh(x, 1)) <= 0 {
			check(a, b)
		}
	}
}

// Sums of what is below 2^-1021 are never rounded, so that they never tell FfUnder.
func TestFlSmallSums(t *testing.T) {
	source := rand.New(rand.NewSource(64))
	for range 3000 {
		a, b := num(1+source.Intn(most), leastE), num(1+source.Intn(most), leastE)
		a.Neg, b.Neg = source.Intn(2) == 0, source.Intn(2) == 0
		for _, mode := range modes() {
			got, flags := impl.FlAdd(a, b, mode)
			if flags&impl.FfUnder != 0 || got.Kind == impl.FkNum && got.E == leastE && flags != 0 {
				t.Fatal(a, b, mode, got, flags)
			}
		}
	}
}

// middle is the dyadic number half way between two floats that are next to one another.
func middle(a impl.Fl, b impl.Fl) impl.Dy {
	return dy(new(big.Int).Add(whole2(a), whole2(b)), leastE-1)
}

func sameNext(t *testing.T, f impl.Fl) {
	t.Helper()
	next := impl.FlNext(f)
	if want := fromGo(math.Nextafter(ofGo(f), math.Inf(1))); next != want || !impl.FlOk(next) {
		t.Fatalf("FlNext of %v is %v, not %v", f, next, want)
	}
	if f.Kind == impl.FkNan || f == inf {
		return
	}
	if order, ok := impl.FlCmp(f, next); order != -1 || !ok {
		t.Fatalf("FlNext of %v is %v, which is not above", f, next)
	}
	if !isFinite(f) || !isFinite(next) {
		return
	}
	// Nothing is between: what lies there is rounded to these two.
	down, flags, _ := impl.FlRound(middle(f, next), impl.RdDown)
	up, _, _ := impl.FlRound(middle(f, next), impl.RdUp)
	if low, _ := impl.FlCmp(down, f); low != 0 || flags&inex == 0 {
		t.Fatalf("%v is between %v and %v", down, f, next)
	}
	if high, _ := impl.FlCmp(up, next); high != 0 {
		t.Fatalf("%v is between %v and %v", up, f, next)
	}
	if f.Neg || f.Kind == impl.FkZero {
		return
	}
	if bits := packed(f) + 1; bits != packed(next) {
		t.Fatalf("the bits of %v and %v are not next to one another", f, next)
	}
}

func TestFlNext(t *testing.T) {
	source := rand.New(rand.NewSource(65))
	for _, f := range edges() {
		sameNext(t, f)
	}
	for range 8000 {
		sameNext(t, anyFl(source))
	}
	for _, f := range badFls() {
		if impl.FlNext(f) != nan {
			t.Fatal(f)
		}
	}
}

func TestFlNextLiterals(t *testing.T) {
	rows := [][2]impl.Fl{
		{minus0, least}, {nought, least}, {opposite(least), minus0}, {num(-2, leastE), opposite(least)}, {least, num(2, leastE)}, {greatest, inf},
		{minusInf, opposite(greatest)}, {inf, inf}, {nan, nan}, {num(full-1, leastE), small}, {opposite(small), num(-full+1, leastE)}, {num(most, leastE), num(full, leastE+1)},
		{num(-full, leastE+1), num(-most, leastE)}, {num(most, -53), one}, {num(-full, -52), num(-most, -53)}, {one, num(full+1, -52)}, {opposite(greatest), num(-most+1, mostE)},
	}
	for _, row := range rows {
		if got := impl.FlNext(row[0]); got != row[1] {
			t.Fatal(row, got)
		}
	}
	// From six steps below nought to six above, both noughts being one.
	f := num(-6, leastE)
	for n := -5; n <= 6; n++ {
		f = impl.FlNext(f)
		want := num(n, leastE)
		if n == 0 {
			want = minus0
		}
		if f != want {
			t.Fatal(n, f)
		}
	}
}

func TestFlNeg(t *testing.T) {
	source := rand.New(rand.NewSource(66))
	list := edges()
	for range 1000 {
		list = append(list, anyFl(source))
	}
	for _, f := range list {
		got, want := impl.FlNeg(f), opposite(f)
		if f.Kind == impl.FkNan {
			want = nan
		}
		if got != want || impl.FlNeg(got) != f {
			t.Fatal(f, got)
		}
	}
	for _, f := range badFls() {
		if impl.FlNeg(f) != nan {
			t.Fatal(f)
		}
	}
}

func TestFlUlp(t *testing.T) {
	source := rand.New(rand.NewSource(67))
	list := edges()
	for range 3000 {
		list = append(list, anyFl(source))
	}
	for _, f := range list {
		step, ok := impl.FlUlp(f)
		if !isFinite(f) {
			refusedDy(t, "FlUlp", step, ok)
			continue
		}
		e := f.E
		if f.Kind == impl.FkZero {
			e = leastE
		}
		sameDyTold(t, "FlUlp", step, ok, big.NewInt(1), e)
		size := f
		size.Neg = false
		if next := impl.FlNext(size); isFinite(next) {
			sameDy(t, "the distance to the next one", step, new(big.Int).Sub(whole2(next), whole2(size)), leastE)
		}
	}
	for _, f := range badFls() {
		step, ok := impl.FlUlp(f)
		refusedDy(t, fmt.Sprint("FlUlp of ", f), step, ok)
	}
}

func sameOfInt(t *testing.T, n int, mode int) {
	t.Helper()
	got, flags := impl.FlOfInt(n, mode)
	want, wantFlags := nought, 0
	if n != 0 {
		want, wantFlags = wantFl(frac{big.NewInt(int64(n)), big.NewInt(1)}, mode)
	}
	sameFl(t, fmt.Sprintf("FlOfInt of %d, %d", n, mode), got, flags, want, wantFlags)
	if flags != 0 {
		return
	}
	for _, back := range modes() {
		w, ok := impl.FlToInt(got, back)
		sameWholeTold(t, "FlToInt", w, ok, big.NewInt(int64(n)))
	}
}

func TestFlOfInt(t *testing.T) {
	source := rand.New(rand.NewSource(68))
	list := []int{0, math.MaxInt, math.MaxInt - 1, math.MaxInt - 511, math.MaxInt - 512, math.MaxInt - 1023, math.MinInt, math.MinInt + 1, math.MinInt + 512, math.MinInt + 1024}
	for k := range 62 {
		for by := -3; by <= 3; by++ {
			list = append(list, 1<<k+by, -1<<k+by, 1<<62+by<<(k/6), 3<<(k/2)+by)
		}
	}
	for range 3000 {
		n := int(source.Uint64()) >> source.Intn(64)
		list = append(list, n, n>>10<<10, n>>9<<9, n>>10<<10+512)
	}
	for _, n := range list {
		for _, mode := range modes() {
			sameOfInt(t, n, mode)
		}
		for _, mode := range badModes() {
			got, flags := impl.FlOfInt(n, mode)
			isBad(t, "FlOfInt", got, flags)
		}
	}
}

func TestFlOfIntLiterals(t *testing.T) {
	rows := []struct {
		n     int
		want  [5]impl.Fl
		flags int
	}{
		{0, each(nought), 0}, {1, each(one), 0}, {-1, each(opposite(one)), 0}, {most, each(num(most, 0)), 0}, {most + 1, each(num(full, 1)), 0},
		{most + 2, lowUp(num(full, 1), num(full, 1), num(full+1, 1), num(full+1, 1)), inex}, {most + 4, lowUp(num(full+2, 1), num(full+1, 1), num(full+2, 1), num(full+2, 1)), inex},
		{math.MinInt, each(num(-full, 11)), 0}, {math.MaxInt, lowUp(num(full, 11), num(most, 10), num(full, 11), num(full, 11)), inex},
		{-math.MaxInt, [5]impl.Fl{num(-full, 11), num(-most, 10), num(-most, 10), num(-full, 11), num(-full, 11)}, inex},
	}
	for _, row := range rows {
		for mode, want := range row.want {
			got, flags := impl.FlOfInt(row.n, mode)
			sameFl(t, fmt.Sprint("FlOfInt ", row.n, mode), got, flags, want, row.flags)
		}
	}
}

func TestFlToInt(t *testing.T) {
	source := rand.New(rand.NewSource(69))
	list := edges()
	for range 2000 {
		list = append(list, anyFl(source), someFl(source, -52, 55))
	}
	for n := range 200 {
		// Eighths: what is half way is among them.
		f, _ := impl.FlOfInt(n-100, impl.RdEven)
		f, _ = impl.FlMul(f, num(full, -55), impl.RdEven)
		list = append(list, f)
	}
	for _, f := range list {
		for _, mode := range modes() {
			got, ok := impl.FlToInt(f, mode)
			if !isFinite(f) {
				if ok || got.Neg || len(got.A.L) != 0 {
					t.Fatal(f, got, ok)
				}
				continue
			}
			want, _ := wantQuotient(whole2(f), two(-leastE), mode)
			sameWholeTold(t, fmt.Sprintf("FlToInt of %v, %d", f, mode), got, ok, want)
		}
	}
}

func TestFlToIntLiterals(t *testing.T) {
	half, three2, five2 := num(full, -53), num(3<<51, -52), num(5<<50, -51)
	rows := []struct {
		f    impl.Fl
		want [5]int
	}{
		{nought, [5]int{}}, {minus0, [5]int{}}, {least, [5]int{0, 0, 1, 0, 0}}, {opposite(least), [5]int{0, 0, 0, -1, 0}}, {half, [5]int{0, 0, 1, 0, 1}},
		{opposite(half), [5]int{0, 0, 0, -1, -1}}, {three2, [5]int{2, 1, 2, 1, 2}}, {opposite(three2), [5]int{-2, -1, -1, -2, -2}}, {five2, [5]int{2, 2, 3, 2, 3}},
		{opposite(five2), [5]int{-2, -2, -2, -3, -3}}, {one, [5]int{1, 1, 1, 1, 1}}, {num(most, -53), [5]int{1, 0, 1, 0, 1}}, {num(-most, -1), [5]int{-full, 1 - full, 1 - full, -full, -full}},
		{num(most, 9), [5]int{most << 9, most << 9, most << 9, most << 9, most << 9}},
	}
	for _, row := range rows {
		for mode, want := range row.want {
			got, ok := impl.FlToInt(row.f, mode)
			sameWholeTold(t, fmt.Sprint("FlToInt ", row.f, mode), got, ok, big.NewInt(int64(want)))
		}
	}
	for _, mode := range modes() {
		got, ok := impl.FlToInt(opposite(greatest), mode)
		sameWholeTold(t, "FlToInt of the least number", got, ok, minus(new(big.Int).Lsh(big.NewInt(most), mostE)))
	}
}

func TestFlToIntWrong(t *testing.T) {
	refused := func(f impl.Fl, mode int) {
		t.Helper()
		if w, ok := impl.FlToInt(f, mode); ok || w.Neg || len(w.A.L) != 0 {
			t.Fatal(f, mode, w, ok)
		}
	}
	for _, mode := range badModes() {
		for _, f := range edges() {
			refused(f, mode)
		}
	}
	for _, f := range append(badFls(), inf, minusInf, nan) {
		for _, mode := range append(modes(), -1, 5) {
			refused(f, mode)
		}
	}
}

// flCall is a function that answers with a float and flags, of so many arguments.
type flCall struct {
	name  string
	count int
	call  func(l []impl.Fl, mode int) (impl.Fl, int)
}

func flCalls() []flCall {
	return []flCall{
		{"FlAdd", 2, func(l []impl.Fl, mode int) (impl.Fl, int) { return impl.FlAdd(l[0], l[1], mode) }},
		{"FlSub", 2, func(l []impl.Fl, mode int) (impl.Fl, int) { return impl.FlSub(l[0], l[1], mode) }},
		{"FlMul", 2, func(l []impl.Fl, mode int) (impl.Fl, int) { return impl.FlMul(l[0], l[1], mode) }},
		{"FlDiv", 2, func(l []impl.Fl, mode int) (impl.Fl, int) { return impl.FlDiv(l[0], l[1], mode) }},
		{"FlFma", 3, func(l []impl.Fl, mode int) (impl.Fl, int) { return impl.FlFma(l[0], l[1], l[2], mode) }},
		{"FlSqrt", 1, func(l []impl.Fl, mode int) (impl.Fl, int) { return impl.FlSqrt(l[0], mode) }},
	}
}

func TestFlWrongArguments(t *testing.T) {
	kinds := append(kindsInOrder(), least, greatest)
	for _, c := range flCalls() {
		for place := range c.count {
			for i, bad := range badFls() {
				for j := range kinds {
					list := []impl.Fl{kinds[j], kinds[(i+j)%len(kinds)], kinds[(i+2*j)%len(kinds)]}
					list[place] = bad
					for _, mode := range append(modes(), -1, 5) {
						got, flags := c.call(list, mode)
						isBad(t, fmt.Sprint(c.name, list, mode), got, flags)
					}
				}
				list := []impl.Fl{bad, bad, bad}
				got, flags := c.call(list, impl.RdEven)
				isBad(t, c.name, got, flags)
			}
		}
	}
}

func TestFlWrongModes(t *testing.T) {
	kinds := append(kindsInOrder(), least, greatest)
	for _, c := range flCalls() {
		for _, mode := range badModes() {
			for _, x := range kinds {
				for _, y := range kinds {
					for _, z := range kinds {
						got, flags := c.call([]impl.Fl{x, y, z}, mode)
						isBad(t, fmt.Sprint(c.name, x, y, z, mode), got, flags)
					}
				}
			}
		}
	}
}

func TestFlCmpWrong(t *testing.T) {
	for _, bad := range badFls() {
		for _, f := range append(kindsInOrder(), bad, least, greatest) {
			for _, pair := range [][2]impl.Fl{{bad, f}, {f, bad}} {
				if got, ok := impl.FlCmp(pair[0], pair[1]); got != 0 || ok {
					t.Fatal(pair, got, ok)
				}
			}
		}
	}
}

// The lists of an answer are new each time: what is written into one is not seen in another.
func TestFlMemory(t *testing.T) {
	for _, f := range edges() {
		for _, mode := range modes() {
			calls := []func() impl.Nat{
				func() impl.Nat { d, _ := impl.FlDy(f); return d.M.A },
				func() impl.Nat { d, _ := impl.FlUlp(f); return d.M.A },
				func() impl.Nat { w, _ := impl.FlToInt(f, mode); return w.A },
			}
			for i, call := range calls {
				first := call()
				was := slices.Clone(first.L)
				second := call()
				scribble(answers{nats: []impl.Nat{first}})
				if third := call(); !slices.Equal(second.L, was) || !slices.Equal(third.L, was) {
					t.Fatal("an answer shares memory:", f, i)
				}
			}
		}
	}
}
