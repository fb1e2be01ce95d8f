package tests

import (
	"fmt"
	"math"
	"math/big"
	"math/rand"
	"slices"
	"testing"

	"loop.example/g00382/impl"
)

func TestFuncConstants(t *testing.T) {
	if impl.MaxBits != 120 || impl.MostNorm != 64 {
		t.Fatal(impl.MaxBits, impl.MostNorm)
	}
}

func wantFact(n int) *big.Int { return new(big.Int).MulRange(1, int64(n)) }

func TestFact(t *testing.T) {
	for n := range 201 {
		got, ok := impl.Fact(n)
		if !ok {
			t.Fatal(n)
		}
		sameNat(t, fmt.Sprint("Fact ", n), got, wantFact(n))
	}
	for _, row := range [][2]int{{0, 1}, {1, 1}, {2, 2}, {3, 6}, {4, 24}, {5, 120}, {6, 720}, {7, 5040}, {13, 6227020800}, {20, 2432902008176640000}} {
		got, _ := impl.Fact(row[0])
		if n, ok := impl.NatInt(got); !ok || n != row[1] {
			t.Fatal(row, n)
		}
	}
}

func TestFactWrong(t *testing.T) {
	for _, n := range []int{-1, 201, -2, 202, 400, 1000, -200, 1 << 32, 1<<32 + 5, -1 << 32, 1<<32 - 1, 1 << 62, math.MaxInt, math.MinInt, math.MinInt + 1} {
		if got, ok := impl.Fact(n); ok || len(got.L) != 0 {
			t.Fatal(n, got, ok)
		}
	}
}

// enoughTerms says whether 2^k times the factorial of k + 1 is not below 2^-w.
func enoughTerms(k int, w int) bool {
	return new(big.Int).Lsh(wantFact(k+1), uint(k)).Cmp(two(-w)) >= 0
}

func wantTerms(w int) int {
	k := 1
	for !enoughTerms(k, w) {
		k++
	}
	return k
}

func TestExpTerms(t *testing.T) {
	for w := -400; w <= 0; w++ {
		k := impl.ExpTerms(w)
		if k < 1 || !enoughTerms(k, w) || k > 1 && enoughTerms(k-1, w) {
			t.Fatal(w, k)
		}
		if w < 0 && impl.ExpTerms(w+1) > k {
			t.Fatal(w, k)
		}
	}
	// 2 times 2 is 4, 4 times 6 is 24, 8 times 24 is 192, 16 times 120 is 1920, 32 times 720 is 23040.
	rows := [][2]int{{0, 1}, {-1, 1}, {-2, 1}, {-3, 2}, {-4, 2}, {-5, 3}, {-7, 3}, {-8, 4}, {-10, 4}, {-11, 5}, {-14, 5}, {-15, 6}}
	for _, row := range rows {
		if k := impl.ExpTerms(row[0]); k != row[1] {
			t.Fatal(row, k)
		}
	}
	for _, w := range []int{1, -401, 2, -402, 400, -800, 1 << 32, -1 << 32, -1<<32 - 1, 1<<32 - 1, math.MaxInt, math.MinInt, math.MinInt + 1} {
		if k := impl.ExpTerms(w); k != 0 {
			t.Fatal(w, k)
		}
	}
}

// normTimes is the norm times 2^MaxE.
func normTimes(m impl.Mat) *big.Int {
	list := scaledMat(m)
	norm := new(big.Int)
	for j := range m.N {
		sum := new(big.Int)
		for i := range m.N {
			sum.Add(sum, new(big.Int).Abs(list[i*m.N+j]))
		}
		if sum.Cmp(norm) > 0 {
			norm = sum
		}
	}
	return norm
}

// inReach says whether a function of this chapter takes the matrix, which is MatOk, and low.
func inReach(m impl.Mat, low int) bool {
	return low >= -120 && low <= 0 && normTimes(m).Cmp(new(big.Int).Lsh(big.NewInt(64), impl.MaxE)) <= 0
}

// wantHalvings is the chapter's s: of a norm that is not 0, how many bits it has ahead of the point, and 1.
func wantHalvings(m impl.Mat) int {
	norm := normTimes(m)
	if norm.Sign() == 0 {
		return 0
	}
	return max(norm.BitLen()-impl.MaxE+1, 0)
}

// heldTimes is the product of two matrices of intervals, exactly, without what may be told being asked for.
func heldTimes(a *ends, b *ends) *ends {
	want := &ends{n: a.n, e: a.e + b.e}
	n := a.n
	for place := range n * n {
		lo, hi := new(big.Int), new(big.Int)
		for k := range n {
			p, q := place/n*n+k, k*n+place%n
			var products []*big.Int
			for _, x := range []*big.Int{a.lo[p], a.hi[p]} {
				for _, y := range []*big.Int{b.lo[q], b.hi[q]} {
					products = append(products, new(big.Int).Mul(x, y))
				}
			}
			lo.Add(lo, slices.MinFunc(products, (*big.Int).Cmp))
			hi.Add(hi, slices.MaxFunc(products, (*big.Int).Cmp))
		}
		want.lo, want.hi = append(want.lo, lo), append(want.hi, hi)
	}
	return want
}

// outTo is a, divided by k, rounded outwards to multiples of 2^low.
func outTo(a *ends, k int, low int) *ends {
	want := &ends{n: a.n, e: low}
	by := new(big.Int).Mul(big.NewInt(int64(k)), two(max(low-a.e, 0)))
	up := uint(max(a.e-low, 0))
	for i := range a.lo {
		lo, _ := wantQuotient(new(big.Int).Lsh(a.lo[i], up), by, impl.RdDown)
		hi, _ := wantQuotient(new(big.Int).Lsh(a.hi[i], up), by, impl.RdUp)
		want.lo, want.hi = append(want.lo, lo), append(want.hi, hi)
	}
	return want
}

// pointsAt holds these numbers alone, times 2^e.
func pointsAt(n int, list []*big.Int, e int) *ends {
	return &ends{n: n, lo: list, hi: list, e: e}
}

// heldPlus wants two with one power of two.
func heldPlus(a *ends, b *ends) *ends {
	want := &ends{n: a.n, e: a.e}
	for i := range a.lo {
		want.lo, want.hi = append(want.lo, new(big.Int).Add(a.lo[i], b.lo[i])), append(want.hi, new(big.Int).Add(a.hi[i], b.hi[i]))
	}
	return want
}

// wantHold goes the chapter's way, step by step. It wants a matrix and a low that are taken.
func wantHold(a impl.Mat, low int) *ends {
	s := wantHalvings(a)
	w := low - 2*s - 12
	b := pointsAt(a.N, scaledMat(a), -impl.MaxE-s)
	var one []*big.Int
	for place := range a.N * a.N {
		x := new(big.Int)
		if place%(a.N+1) == 0 {
			x = two(-w)
		}
		one = append(one, x)
	}
	p := pointsAt(a.N, one, w)
	sum := p
	for k := 1; k <= wantTerms(w); k++ {
		p = outTo(heldTimes(p, b), k, w)
		sum = heldPlus(sum, p)
	}
	for i := range sum.lo {
		sum.lo[i], sum.hi[i] = plus(sum.lo[i], -1), plus(sum.hi[i], 1)
	}
	for range s {
		sum = outTo(heldTimes(sum, sum), 1, w)
	}
	sum = outTo(sum, 1, low-4)
	sum.told = true
	for i := range sum.lo {
		sum.told = sum.told && dyTellable(sum.lo[i], sum.e) && dyTellable(sum.hi[i], sum.e)
	}
	return sum
}

// trueBits is how fine the numbers are of what stands for the true exponential; it is right but for the last 200 of them.
const trueBits = 600

// trueExp is the exponential times 2^trueBits: term by term, without halving, until the terms are nothing.
func trueExp(a impl.Mat) []*big.Int {
	var b, sum []*big.Int
	for place, x := range scaledMat(a) {
		b = append(b, x.Rsh(x, impl.MaxE-trueBits))
		one := new(big.Int)
		if place%(a.N+1) == 0 {
			one = two(trueBits)
		}
		sum = append(sum, one)
	}
	term := slices.Clone(sum)
	for k := int64(1); k < 1000; k++ {
		term = timesBig(a.N, term, b)
		for i, x := range term {
			term[i] = x.Quo(x.Rsh(x, trueBits), big.NewInt(k))
			sum[i] = new(big.Int).Add(sum[i], term[i])
		}
	}
	return sum
}

// trueTimes is d times 2^trueBits, which is whole.
func trueTimes(d impl.Dy) *big.Int {
	return new(big.Int).Rsh(new(big.Int).Lsh(scaled(d), trueBits), impl.MaxE)
}

// holdsTrue fails unless got has the true exponential in it.
func holdsTrue(t *testing.T, name string, got impl.IvMat, want []*big.Int) {
	t.Helper()
	slack := two(200)
	for i, v := range got.A {
		if trueTimes(v.Lo).Cmp(new(big.Int).Add(want[i], slack)) > 0 || trueTimes(v.Hi).Cmp(new(big.Int).Sub(want[i], slack)) < 0 {
			t.Fatalf("%s has %v as number %d, and the true one is %v times 2^-%d", name, v, i, want[i], trueBits)
		}
	}
}

// sameHold holds ExpHold against the chapter's steps.
func sameHold(t *testing.T, a impl.Mat, low int) (impl.IvMat, bool) {
	t.Helper()
	got, ok := impl.ExpHold(a, low)
	name := fmt.Sprintf("ExpHold of %v, %d", a, low)
	if !inReach(a, low) {
		refusedIvMat(t, name, got, ok)
		return got, ok
	}
	wantHold(a, low).same(t, name, got, ok)
	return got, ok
}

// expLows has both limits of low, and some between them.
func expLows() []int { return []int{0, -1, -2, -7, -24, -53, -90, -119, -120} }

// shiftedMat has all numbers times 2^k.
func shiftedMat(m impl.Mat, k int) impl.Mat {
	var list []impl.Dy
	for _, d := range m.A {
		list = append(list, dy(bigOfWhole(d.M), d.E+k))
	}
	return matOf(m.N, list...)
}

// towards has m's numbers times that power of two which makes the norm at least 2^(top-1), and less than 2^top.
func towards(m impl.Mat, top int) impl.Mat {
	norm := normTimes(m)
	if norm.Sign() == 0 {
		return m
	}
	return shiftedMat(m, top-(norm.BitLen()-impl.MaxE))
}

// withNorm is m with that norm, just so: what one of its columns lacks is added to one number's size.
// It wants an m whose norm is less.
func withNorm(m impl.Mat, norm impl.Dy) impl.Mat {
	column := slices.IndexFunc(m.A, func(d impl.Dy) bool { return len(d.M.A.L) > 0 })
	column = max(column, 0) % m.N
	left := scaled(norm)
	for i := 1; i < m.N; i++ {
		left.Sub(left, new(big.Int).Abs(scaled(m.A[i*m.N+column])))
	}
	if m.A[column].M.Neg {
		left.Neg(left)
	}
	return with(m, column, dy(left, -impl.MaxE))
}

// nilpotents has matrices whose square is nought, and such of which but the last power is.
func nilpotents(n int, d impl.Dy, e impl.Dy) []impl.Mat {
	list := []impl.Mat{noughts(n)}
	for place := range n * n {
		if place/n != place%n {
			list = append(list, with(noughts(n), place, d))
		}
	}
	for i := range n - 1 {
		above := noughts(n)
		for j := range n - 1 - i {
			above.A[j*n+j+1+i] = []impl.Dy{d, e}[j%2]
		}
		list = append(list, above, turned(above))
	}
	return list
}

// expMats has matrices of N 1 to 4 whose norms are 0, below 1, 1, between, and MostNorm.
func expMats(seed int64, many int) []impl.Mat {
	source := rand.New(rand.NewSource(seed))
	var list []impl.Mat
	for n := 1; n <= impl.MaxN; n++ {
		list = append(list, noughts(n), diagonal(n, dyInt(1, 0)), diagonal(n, dyInt(-64, 0)), diagonal(n, dyInt(64, 0)))
		for i := range many {
			small, some := smallMat(source, n), someMat(source, n, 1+i%8, 1+10*i%60)
			whole := matInts(n, 0, make([]int, n*n)...)
			for place := range n * n {
				whole.A[place] = dyInt(source.Intn(32/n+1)-16/n, 0)
			}
			top := source.Intn(27) - 20
			list = append(list, whole, towards(small, source.Intn(9)-2), towards(some, top))
			if 0 <= top {
				list = append(list, withNorm(towards(some, top), dyInt(1, top)))
			}
			down := noughts(n)
			for k := range n {
				down.A[k*n+k] = towards(someMat(source, 1, 1+i%4, 10), source.Intn(12)-5).A[0]
			}
			list = append(list, down)
		}
		list = append(list, withNorm(towards(smallMat(source, n), 3), dyInt(1, 0)), withNorm(towards(someMat(source, n, 3, 9), 5), dyInt(64, 0)))
	}
	return slices.DeleteFunc(list, func(m impl.Mat) bool { return !inReach(m, 0) })
}

func TestExpHold(t *testing.T) {
	norms := map[int]int{}
	for i, a := range expMats(1101, 14) {
		norms[wantHalvings(a)]++
		want := trueExp(a)
		for j, low := range expLows() {
			if (i+j)%3 != 0 {
				continue
			}
			got, ok := sameHold(t, a, low)
			if !ok {
				t.Fatal("refused", a, low)
			}
			holdsTrue(t, fmt.Sprintf("ExpHold of %v, %d", a, low), got, want)
		}
	}
	for s := range 9 {
		if norms[s] == 0 {
			t.Fatal("no matrix is halved so many times:", s, norms)
		}
	}
}

// All low of a few matrices.
func TestExpHoldAllLows(t *testing.T) {
	source := rand.New(rand.NewSource(1102))
	for n := 1; n <= impl.MaxN; n++ {
		for _, a := range []impl.Mat{towards(someMat(source, n, 2, 4), 1), towards(smallMat(source, n), 4), withNorm(towards(someMat(source, n, 1, 3), 3), dyInt(27, -1))} {
			want := trueExp(a)
			for low := -120; low <= 0; low++ {
				got, ok := sameHold(t, a, low)
				if !ok {
					t.Fatal("refused", a, low)
				}
				holdsTrue(t, fmt.Sprintf("ExpHold of %v, %d", a, low), got, want)
			}
		}
	}
}

// Of noughts it is one; of a matrix whose square is nought one and that; of numbers on the way down, theirs.
func TestExpHoldOfKnownOnes(t *testing.T) {
	mat := must[impl.Mat](t)
	for n := 1; n <= impl.MaxN; n++ {
		one := diagonal(n, dyInt(1, 0))
		for _, low := range expLows() {
			got, _ := sameHold(t, noughts(n), low)
			step := ivInt(-1, 1, low-4)
			want, _ := impl.IvMatAdd(pointsOf(one), sameIvs(n, step))
			sameAsIvMat(t, "ExpHold of noughts", got, true, want)
			for _, d := range []impl.Dy{dyInt(1, 0), dyInt(-3, -1), dyInt(64, 0), dyInt(-1, -3000), dy(plus(two(300), 1), -298)} {
				for i, a := range nilpotents(n, d, dyInt(-5, -2)) {
					if (i-low)%3 != 0 {
						continue
					}
					got, ok := sameHold(t, a, low)
					square := timesBig(n, scaledMat(a), scaledMat(a))
					if none := !slices.ContainsFunc(square, func(x *big.Int) bool { return x.Sign() != 0 }); !ok || none && !impl.IvMatHas(got, mat(impl.MatAdd(one, a))) {
						t.Fatal(a, low, got)
					}
					holdsTrue(t, fmt.Sprint("ExpHold of ", a), got, trueExp(a))
				}
			}
			sameAsThoseAlone(t, n, low)
		}
	}
}

// sameAsThoseAlone has numbers on the way down: the true numbers are those of each alone, and 0.
func sameAsThoseAlone(t *testing.T, n int, low int) {
	t.Helper()
	a := noughts(n)
	var want []*big.Int
	for place := range n * n {
		x := new(big.Int)
		if place%(n+1) == 0 {
			a.A[place] = []impl.Dy{dyInt(-64, 0), dyInt(5, 0), dyInt(1, -9), dyInt(-3, -1)}[(place-low)%4]
			x = trueExp(matOf(1, a.A[place]))[0]
			near, _ := new(big.Float).SetMantExp(new(big.Float).SetInt(x), -trueBits).Float64()
			number, _ := new(big.Float).SetMantExp(new(big.Float).SetInt(bigOfWhole(a.A[place].M)), a.A[place].E).Float64()
			if math.Abs(near/math.Exp(number)-1) > 1e-12 {
				t.Fatal("the test's own one is", near, "of", number)
			}
		}
		want = append(want, x)
	}
	got, ok := sameHold(t, a, low)
	if !ok {
		t.Fatal(a, low)
	}
	holdsTrue(t, fmt.Sprint("ExpHold of ", a), got, want)
}

// turnedHold has the rows as columns.
func turnedHold(v impl.IvMat) impl.IvMat {
	other := sameIvs(v.N, impl.Iv{})
	for place, w := range v.A {
		other.A[place%v.N*v.N+place/v.N] = w
	}
	return other
}

// The promise: of a matrix and its opposite one; of twice a matrix what its square holds, too; of one that is turned, turned.
func TestExpHoldPromises(t *testing.T) {
	iv := must[impl.IvMat](t)
	twice := 0
	for i, a := range expMats(1103, 14) {
		low := expLows()[i%len(expLows())]
		hold := iv(impl.ExpHold(a, low))
		back := iv(impl.ExpHold(opposites(a), low))
		for _, product := range []impl.IvMat{iv(impl.IvMatMul(hold, back)), iv(impl.IvMatMul(back, hold))} {
			if !impl.IvMatHas(product, diagonal(a.N, dyInt(1, 0))) {
				t.Fatal("with its opposite", a, low, product)
			}
		}
		if double := shiftedMat(a, 1); inReach(double, low) {
			twice++
			if !impl.IvMatMeets(iv(impl.ExpHold(double, low)), iv(impl.IvMatMul(hold, hold))) {
				t.Fatal("twice", a, low)
			}
		}
		if other := turned(a); inReach(other, low) && !impl.IvMatMeets(iv(impl.ExpHold(other, low)), turnedHold(hold)) {
			t.Fatal("turned", a, low)
		}
	}
	if twice < 50 {
		t.Fatal("few may be doubled:", twice)
	}
}

// someReal is a number of either sign whose size is at most 64.
func someReal(source *rand.Rand) impl.Dy {
	d := towards(someMat(source, 1, 1+source.Intn(6), 20), source.Intn(40)-33).A[0]
	if source.Intn(8) == 0 {
		d = dyInt(source.Intn(129)-64, 0)
	}
	return d
}

// The promise: of a number x above 0 it is not below 1 + x. And what holds x's own is narrow.
func TestExpNum(t *testing.T) {
	source := rand.New(rand.NewSource(1104))
	number := must[impl.Dy](t)
	one := dyInt(1, 0)
	for i := range 400 {
		d, low := someReal(source), expLows()[i%len(expLows())]
		got, ok := impl.ExpNum(d, low)
		hold, is := impl.ExpHold(matOf(1, d), low)
		if !ok || !is {
			t.Fatal("refused", d, low)
		}
		sameAsIv(t, "ExpNum", got, ok, hold.A[0])
		wantHold(matOf(1, d), low).same(t, fmt.Sprint("ExpNum of ", d, low), impl.IvMat{N: 1, A: []impl.Iv{got}}, ok)
		holdsTrue(t, fmt.Sprint("ExpNum of ", d), impl.IvMat{N: 1, A: []impl.Iv{got}}, trueExp(matOf(1, d)))
		if scaled(d).Sign() <= 0 {
			continue
		}
		least := number(impl.DyAdd(one, d))
		if impl.DyCmp(got.Hi, least) < 0 {
			t.Fatal("below 1 + x", d, low, got)
		}
		wide := number(impl.IvWide(got))
		if impl.DyCmp(number(impl.DyAdd(got.Lo, wide)), least) < 0 {
			t.Fatal("Lo is far below 1 + x", d, low, got)
		}
	}
}

// Numbers from books, to 50 digits.
func TestExpLiterals(t *testing.T) {
	between := func(name string, v impl.Iv, text string) {
		t.Helper()
		d, ok := impl.DecRead([]byte(text))
		if !ok || impl.DecCmp(d, v.Lo) < 0 || impl.DecCmp(d, v.Hi) > 0 {
			t.Fatal(name, v, text)
		}
	}
	rows := []struct {
		n, e int
		text string
	}{
		{0, 0, "1"}, {1, 0, "2.71828182845904523536028747135266249775724709369995"}, {-1, 0, "0.36787944117144232159552377016146086744581113103176"},
		{2, 0, "7.38905609893065022723042746057500781318031557055184"}, {-2, 0, "0.13533528323661269189399949497248440340763154590957"},
		{1, -1, "1.64872127070012814684865078781416357165377610071014"}, {-1, -1, "0.60653065971263342360379953499118045344191813548718"},
		{10, 0, "22026.46579480671651695790064528424436635351261855678107"}, {-10, 0, "0.00004539992976248485153559151556055061023791808886656496"},
	}
	for _, row := range rows {
		for _, low := range expLows() {
			v, ok := impl.ExpNum(dyInt(row.n, row.e), low)
			if !ok {
				t.Fatal(row, low)
			}
			between(fmt.Sprint(row, low), v, row.text)
			if wide, _ := impl.IvWide(v); impl.DyCmp(wide, dyInt(row.n*row.n+1, low+1)) > 0 && row.n < 3 {
				t.Fatal("wide", row, low, v)
			}
		}
	}
	for _, low := range expLows() {
		turn, ok := impl.ExpHold(matInts(2, 0, 0, -1, 1, 0), low)
		if !ok {
			t.Fatal(low)
		}
		between("the cosine", turn.A[0], "0.54030230586813971740093660744297660373231042061792")
		between("the sine's opposite", turn.A[1], "-0.84147098480789650665250232163029899962256306079837")
		between("the sine", turn.A[2], "0.84147098480789650665250232163029899962256306079837")
		between("the cosine", turn.A[3], "0.54030230586813971740093660744297660373231042061792")
	}
}

// wantNear is the middle of each interval, rounded to a multiple of 2^low, and the norm of how far the farther ends lie off, times 2^(4 - low).
func wantNear(hold *ends, low int) ([]*big.Int, *big.Int) {
	var near, far []*big.Int
	for i, lo := range hold.lo {
		hi := hold.hi[i]
		x, _ := wantQuotient(new(big.Int).Add(lo, hi), two(5), impl.RdEven)
		at := new(big.Int).Lsh(x, 4)
		above, below := new(big.Int).Sub(hi, at), new(big.Int).Sub(at, lo)
		near = append(near, x)
		far = append(far, slices.MaxFunc([]*big.Int{above.Abs(above), below.Abs(below)}, (*big.Int).Cmp))
	}
	norm := new(big.Int)
	for j := range hold.n {
		sum := new(big.Int)
		for i := range hold.n {
			sum.Add(sum, far[i*hold.n+j])
		}
		if sum.Cmp(norm) > 0 {
			norm = sum
		}
	}
	return near, norm
}

// sameNear holds ExpMat against the chapter's steps.
func sameNear(t *testing.T, a impl.Mat, low int) (impl.Mat, impl.Dy, bool) {
	t.Helper()
	got, far, ok := impl.ExpMat(a, low)
	name := fmt.Sprintf("ExpMat of %v, %d", a, low)
	if !inReach(a, low) {
		refusedMat(t, name, got, ok)
		refusedDy(t, name, far, ok)
		return got, far, ok
	}
	near, norm := wantNear(wantHold(a, low), low)
	sameMatTold(t, name, got, ok, a.N, near, low)
	sameDyTold(t, name+", how far", far, ok, norm, low-4)
	return got, far, ok
}

// notFarFromTrue asks by columns how far the numbers are off.
func notFarFromTrue(t *testing.T, name string, got impl.Mat, far impl.Dy, want []*big.Int) {
	t.Helper()
	for j := range got.N {
		sum := two(220)
		sum.Neg(sum)
		for i := range got.N {
			off := new(big.Int).Sub(trueTimes(got.A[i*got.N+j]), want[i*got.N+j])
			sum.Add(sum, off.Abs(off))
		}
		if sum.Cmp(trueTimes(far)) > 0 {
			t.Fatal(name, "is farther off than it tells", got, far)
		}
	}
}

// The promise: ExpMat is no farther off than it tells, and with a norm of at most 1 that is at most N times 2^low.
func TestExpMat(t *testing.T) {
	near := 0
	for i, a := range expMats(1105, 14) {
		want := trueExp(a)
		for j, low := range expLows() {
			if (i+j)%4 != 0 {
				continue
			}
			got, far, ok := sameNear(t, a, low)
			if !ok {
				t.Fatal("refused", a, low)
			}
			notFarFromTrue(t, "ExpMat", got, far, want)
			if normTimes(a).Cmp(two(impl.MaxE)) <= 0 {
				near++
				if impl.DyCmp(far, dyInt(a.N, low)) > 0 {
					t.Fatal("with a norm of at most 1", a, low, far)
				}
			}
		}
	}
	if near < 100 {
		t.Fatal("few have a norm of at most 1:", near)
	}
}

// With a norm of just 1, and all low, how far it is off is at most N times 2^low.
func TestExpMatWithANormOfOne(t *testing.T) {
	source := rand.New(rand.NewSource(1106))
	for n := 1; n <= impl.MaxN; n++ {
		mats := []impl.Mat{diagonal(n, dyInt(1, 0)), diagonal(n, dyInt(-1, 0)), withNorm(towards(someMat(source, n, 2, 5), 0), dyInt(1, 0))}
		if n != 3 {
			part := shiftedMat(ones(n), -n/2)
			mats = append(mats, part, opposites(part))
		}
		for _, a := range mats {
			for low := -120; low <= 0; low++ {
				_, far, ok := sameNear(t, a, low)
				if !ok || impl.DyCmp(far, dyInt(n, low)) > 0 {
					t.Fatal(a, low, far, ok)
				}
			}
		}
	}
}

// Of noughts, and of ones above the way down, the numbers come out just so; the middle between two multiples goes to the even one.
func TestExpMatLiterals(t *testing.T) {
	rows := []struct {
		a, x   impl.Mat
		low, k int
	}{
		{noughts(1), matInts(1, 0, 1), 0, 1}, {noughts(2), matInts(2, 0, 1, 0, 0, 1), -7, 2}, {noughts(4), diagonal(4, dyInt(1, 0)), -120, 4},
		{matInts(2, 0, 0, 1, 0, 0), matInts(2, 0, 1, 1, 0, 1), 0, 2}, {matInts(2, -1, 0, 1, 0, 0), matInts(2, 0, 1, 0, 0, 1), 0, 10},
		{matInts(2, -1, 0, 3, 0, 0), matInts(2, 0, 1, 2, 0, 1), 0, 10}, {matInts(2, -1, 0, 5, 0, 0), matInts(2, 0, 1, 2, 0, 1), 0, 10}, {matInts(2, -1, 0, 0, -3, 0), matInts(2, 0, 1, 0, -2, 1), 0, 10},
		{matInts(2, -1, 0, -1, 0, 0), matInts(2, 0, 1, 0, 0, 1), 0, 10}, {matInts(2, -2, 0, 1, 0, 0), matInts(2, -1, 2, 0, 0, 2), -1, 10},
		{matInts(3, 0, 0, 0, 7, 0, 0, 0, 0, 0, 0), matInts(3, 0, 1, 0, 7, 0, 1, 0, 0, 0, 1), -3, 3},
	}
	for _, row := range rows {
		got, far, ok := sameNear(t, row.a, row.low)
		sameAsMat(t, fmt.Sprint("ExpMat ", row.a), got, ok, row.x)
		sameDy(t, fmt.Sprint("ExpMat, how far ", row.a), far, big.NewInt(int64(row.k)), row.low-4)
	}
}
