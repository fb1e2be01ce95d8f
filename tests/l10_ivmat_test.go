package tests

import (
	"fmt"
	"math"
	"math/big"
	"math/rand"
	"slices"
	"testing"

	"loop.example/g00382/impl"
)

// ivMatOf has these intervals row by row, whether they are as many as N wants or not, with spare room behind them.
func ivMatOf(n int, list ...impl.Iv) impl.IvMat {
	all := slices.Clone(list)
	for i := range matRoom {
		all = append(all, ivInt(-4711, 4711, i))
	}
	return impl.IvMat{N: n, A: all[:len(list)]}
}

// ivMatInts has intervals with these ends times 2^e.
func ivMatInts(n int, e int, ends ...[2]int) impl.IvMat {
	var list []impl.Iv
	for _, x := range ends {
		list = append(list, ivInt(x[0], x[1], e))
	}
	return ivMatOf(n, list...)
}

// sameIvs has v at every place; no two of them share memory.
func sameIvs(n int, v impl.Iv) impl.IvMat {
	var list []impl.Iv
	for range n * n {
		list = append(list, impl.Iv{Lo: alone(v.Lo).Lo, Hi: alone(v.Hi).Hi})
	}
	return ivMatOf(n, list...)
}

// pointsOf holds m alone.
func pointsOf(m impl.Mat) impl.IvMat {
	var list []impl.Iv
	for _, d := range m.A {
		list = append(list, alone(d))
	}
	return ivMatOf(m.N, list...)
}

// withIv is m with v at one place.
func withIv(m impl.IvMat, place int, v impl.Iv) impl.IvMat {
	list := slices.Clone(m.A)
	list[place] = v
	return ivMatOf(m.N, list...)
}

func someIvMat(source *rand.Rand, n int, limbs int, far int) impl.IvMat {
	var list []impl.Iv
	for range n * n {
		list = append(list, someIv(source, limbs, far))
	}
	return ivMatOf(n, list...)
}

// smallIvMat has small whole numbers as ends.
func smallIvMat(source *rand.Rand, n int) impl.IvMat {
	var list []impl.Iv
	for range n * n {
		list = append(list, ordered(dyInt(source.Intn(13)-6, 0), dyInt(source.Intn(13)-6, 0)))
	}
	return ivMatOf(n, list...)
}

// heldMats has matrices of N 1 to 4: small whole ends, and others of some limbs and powers.
func heldMats(seed int64, many int) []impl.IvMat {
	source := rand.New(rand.NewSource(seed))
	var list []impl.IvMat
	for n := 1; n <= impl.MaxN; n++ {
		for i := range many {
			list = append(list, smallIvMat(source, n), someIvMat(source, n, 1+i%8, 1+10*i%60))
		}
	}
	return list
}

// heldPairs has two matrices of one N each.
func heldPairs(seed int64, many int) [][2]impl.IvMat {
	first, second := heldMats(seed, many), heldMats(seed+1000, many)
	var list [][2]impl.IvMat
	for i, a := range first {
		list = append(list, [2]impl.IvMat{a, second[i]}, [2]impl.IvMat{a, second[i^1]}, [2]impl.IvMat{a, a})
	}
	return list
}

func losOf(v impl.IvMat) impl.Mat {
	return fromEach(v, func(w impl.Iv) impl.Dy { return w.Lo })
}

func hisOf(v impl.IvMat) impl.Mat {
	return fromEach(v, func(w impl.Iv) impl.Dy { return w.Hi })
}

// fromEach has what choose takes of each interval.
func fromEach(v impl.IvMat, choose func(w impl.Iv) impl.Dy) impl.Mat {
	var list []impl.Dy
	for _, w := range v.A {
		list = append(list, choose(w))
	}
	return matOf(v.N, list...)
}

// heldBy has some of the matrices that v holds: all lower ends, all upper ends, and some with any number of each interval.
func heldBy(source *rand.Rand, v impl.IvMat) []impl.Mat {
	list := []impl.Mat{losOf(v), hisOf(v)}
	for range 3 {
		list = append(list, fromEach(v, func(w impl.Iv) impl.Dy { return someOf(source, w) }))
	}
	return list
}

// someOf is an end of v, or some 64ths of the way from Lo to Hi, where that may be told.
func someOf(source *rand.Rand, v impl.Iv) impl.Dy {
	way := new(big.Int).Sub(scaled(v.Hi), scaled(v.Lo))
	way.Mul(way, big.NewInt(int64(source.Intn(65)))).Rsh(way, 6)
	number := way.Add(way, scaled(v.Lo))
	if !dyTellable(number, -impl.MaxE) {
		return v.Hi
	}
	return dy(number, -impl.MaxE)
}

func refusedIvMat(t *testing.T, name string, got impl.IvMat, ok bool) {
	t.Helper()
	if ok || got.N != 0 || len(got.A) != 0 {
		t.Fatal(name, got, ok)
	}
}

// ends has both ends of each interval, row by row, times 2^-e, and whether the matrix may be told.
type ends struct {
	n      int
	lo, hi []*big.Int
	e      int
	told   bool
}

func (w *ends) add(lo *big.Int, hi *big.Int) {
	w.lo, w.hi = append(w.lo, lo), append(w.hi, hi)
	w.told = w.told && dyTellable(lo, w.e) && dyTellable(hi, w.e)
}

// same fails unless got has these ends where they may be told, else it must be the zero value and false. It was made of what of has.
func (w *ends) same(t *testing.T, name string, got impl.IvMat, ok bool, of ...any) {
	t.Helper()
	if ok != w.told {
		t.Fatal(name, of, ok)
	}
	if !ok {
		refusedIvMat(t, name, got, ok)
		return
	}
	if got.N != w.n || len(got.A) != w.n*w.n || !impl.IvMatOk(got) {
		t.Fatal(name, of, "is", got)
	}
	for i, v := range got.A {
		if !equalDys(v.Lo, dy(w.lo[i], w.e)) || !equalDys(v.Hi, dy(w.hi[i], w.e)) {
			t.Fatal(name, of, "has", v, "as number", i)
		}
	}
}

func endsOf(v impl.IvMat) *ends {
	want := &ends{n: v.N, e: -impl.MaxE, told: true}
	for _, w := range v.A {
		want.add(scaled(w.Lo), scaled(w.Hi))
	}
	return want
}

func sameAsIvMat(t *testing.T, name string, got impl.IvMat, ok bool, want impl.IvMat) {
	t.Helper()
	endsOf(want).same(t, name, got, ok)
}

func wantHeldSum(a impl.IvMat, b impl.IvMat) *ends {
	want := &ends{n: a.N, e: -impl.MaxE, told: true}
	for i, v := range a.A {
		lo := new(big.Int).Add(scaled(v.Lo), scaled(b.A[i].Lo))
		hi := new(big.Int).Add(scaled(v.Hi), scaled(b.A[i].Hi))
		want.add(lo, hi)
	}
	return want
}

// wantHeldProduct adds the products of each row and column. They, and the sums on the way, may be any: just the ends of the answer must be told.
func wantHeldProduct(a impl.IvMat, b impl.IvMat) *ends {
	want := &ends{n: a.N, e: -2 * impl.MaxE, told: true}
	for i := range a.N {
		for j := range a.N {
			lo, hi := new(big.Int), new(big.Int)
			for k := range a.N {
				least, most := extremesOf(a.A[i*a.N+k], b.A[k*a.N+j], func(x, y *big.Int) *big.Int { return new(big.Int).Mul(x, y) })
				lo.Add(lo, least)
				hi.Add(hi, most)
			}
			want.add(lo, hi)
		}
	}
	return want
}

func sameHeldSum(t *testing.T, a impl.IvMat, b impl.IvMat) (impl.IvMat, bool) {
	t.Helper()
	got, ok := impl.IvMatAdd(a, b)
	wantHeldSum(a, b).same(t, "IvMatAdd", got, ok, a, b)
	return got, ok
}

func sameHeldProduct(t *testing.T, a impl.IvMat, b impl.IvMat) (impl.IvMat, bool) {
	t.Helper()
	got, ok := impl.IvMatMul(a, b)
	wantHeldProduct(a, b).same(t, "IvMatMul", got, ok, a, b)
	return got, ok
}

func TestIvMatOk(t *testing.T) {
	for _, n := range []int{math.MinInt, -1 << 32, -5, -4, -2, -1, 0, 1, 2, 3, 4, 5, 6, 1 << 32, 1<<32 + 2, 1 << 62, math.MaxInt} {
		for length := range 40 {
			m := ivMatOf(n, slices.Repeat([]impl.Iv{ivInt(-3, 5, -1)}, length)...)
			if impl.IvMatOk(m) != (n >= 1 && n <= 4 && length == n*n) {
				t.Fatal(n, length)
			}
		}
		if impl.IvMatOk(impl.IvMat{N: n}) || impl.IvMatOk(impl.IvMat{N: n, A: []impl.Iv{}}) {
			t.Fatal(n)
		}
	}
	for _, m := range heldMats(100, 20) {
		if !impl.IvMatOk(m) {
			t.Fatal(m)
		}
	}
	for _, v := range farIvs() {
		for n := 1; n <= impl.MaxN; n++ {
			if !impl.IvMatOk(sameIvs(n, v)) {
				t.Fatal(n, v)
			}
		}
	}
	// 0 is one value, whether its list is nil or empty.
	empty := impl.Dy{M: impl.Whole{A: impl.Nat{L: []int{}}}}
	if !impl.IvMatOk(impl.IvMat{N: 1, A: []impl.Iv{{}}}) || !impl.IvMatOk(ivMatOf(1, impl.Iv{Hi: empty})) || !impl.IvMatOk(ivMatOf(1, impl.Iv{Lo: empty})) {
		t.Fatal("0")
	}
}

func TestIvMatOkWantsEachInterval(t *testing.T) {
	for _, m := range badIvMats() {
		if impl.IvMatOk(m) {
			t.Fatal(m)
		}
	}
}

// others has matrices that are unlike m in one place alone, and there as near to it as may be.
func others(m impl.Mat) []impl.Mat {
	var list []impl.Mat
	for place, d := range m.A {
		list = append(list, with(m, place, nextTo(d)))
		for _, step := range []impl.Dy{dyInt(1, -impl.MaxE), dyInt(-1, -impl.MaxE), dyInt(1, impl.MaxE), dyInt(1, d.E), dyInt(-1, d.E)} {
			if next, ok := impl.DyAdd(d, step); ok {
				list = append(list, with(m, place, next))
			}
		}
	}
	return list
}

func TestIvMatOf(t *testing.T) {
	mats := ordinary(101, 15)
	for i, d := range manyDys() {
		n := 1 + i%impl.MaxN
		mats = append(mats, with(diagonal(n, dyInt(-3, 1)), i%(n*n), d))
	}
	for _, m := range mats {
		got, ok := impl.IvMatOf(m)
		sameAsIvMat(t, fmt.Sprintf("IvMatOf of %v", m), got, ok, pointsOf(m))
		if !impl.IvMatHas(got, m) || !impl.IvMatHas(got, copyMat(m)) {
			t.Fatal("it has not", m)
		}
		for _, other := range others(m) {
			if impl.MatEq(other, m) != impl.IvMatHas(got, other) {
				t.Fatal(m, "and another one", other)
			}
		}
		for n := 1; n <= impl.MaxN; n++ {
			if n != m.N && impl.IvMatHas(got, noughts(n)) {
				t.Fatal(m, "and one of another N")
			}
		}
	}
}

// just has, for an end of v, whether the number beside it is to be held.
type just struct {
	d  impl.Dy
	ok bool
}

// justAt has both ends of v and a middle, and numbers that are beyond it by the least step that may be told.
func justAt(v impl.Iv) []just {
	list := []just{{v.Lo, true}, {v.Hi, true}}
	for _, step := range []impl.Dy{dyInt(1, -impl.MaxE), dyInt(1, -900), dyInt(1, 0), dyInt(1, impl.MaxE)} {
		if below, ok := impl.DySub(v.Lo, step); ok {
			list = append(list, just{below, false})
		}
		if above, ok := impl.DyAdd(v.Hi, step); ok {
			list = append(list, just{above, false})
		}
		if within, ok := impl.DyAdd(v.Lo, step); ok {
			list = append(list, just{within, impl.DyCmp(within, v.Hi) <= 0})
		}
		if within, ok := impl.DySub(v.Hi, step); ok {
			list = append(list, just{within, impl.DyCmp(v.Lo, within) <= 0})
		}
	}
	half := new(big.Int).Add(scaled(v.Lo), scaled(v.Hi))
	if dyTellable(half, -impl.MaxE-1) {
		list = append(list, just{dy(half, -impl.MaxE-1), true})
	}
	return list
}

func TestIvMatHas(t *testing.T) {
	source := rand.New(rand.NewSource(102))
	mats := heldMats(102, 5)
	for i, v := range farIvs() {
		n := 1 + i%impl.MaxN
		mats = append(mats, withIv(sameIvs(n, ivInt(-1, 1, 1)), i%(n*n), v))
	}
	for _, v := range mats {
		for _, m := range heldBy(source, v) {
			if !impl.IvMatHas(v, m) {
				t.Fatal(v, m)
			}
			for place, w := range v.A {
				for _, row := range justAt(w) {
					if impl.IvMatHas(v, with(m, place, row.d)) != row.ok {
						t.Fatal(v, place, row)
					}
				}
			}
		}
	}
}

func TestIvMatHasWantsOneN(t *testing.T) {
	for n := 1; n <= impl.MaxN; n++ {
		for k := 1; k <= impl.MaxN; k++ {
			for _, m := range []impl.Mat{noughts(k), ones(k), diagonal(k, dyInt(1, 0))} {
				if impl.IvMatHas(sameIvs(n, ivInt(-2, 2, 0)), m) != (n == k) {
					t.Fatal(n, k)
				}
			}
			if impl.IvMatHas(pointsOf(noughts(n)), noughts(k)) != (n == k) {
				t.Fatal(n, k)
			}
		}
	}
	empty := impl.Dy{M: impl.Whole{A: impl.Nat{L: []int{}}}}
	if !impl.IvMatHas(ivMatOf(1, impl.Iv{}), matOf(1, empty)) || impl.IvMatHas(impl.IvMat{}, impl.Mat{}) {
		t.Fatal("0, or none")
	}
	// Turned round, this one is not held.
	v := ivMatInts(2, 0, [2]int{0, 1}, [2]int{2, 3}, [2]int{4, 5}, [2]int{6, 7})
	if !impl.IvMatHas(v, matInts(2, 0, 1, 2, 4, 7)) || impl.IvMatHas(v, matInts(2, 0, 1, 4, 2, 7)) {
		t.Fatal(v)
	}
}

// The promise: what two matrices that are held make lies in what is made of what holds them.
func TestIvMatSumsAndProducts(t *testing.T) {
	source := rand.New(rand.NewSource(103))
	mat := must[impl.Mat](t)
	for _, pair := range heldPairs(103, 25) {
		a, b := pair[0], pair[1]
		sum, ok := sameHeldSum(t, a, b)
		product, is := sameHeldProduct(t, a, b)
		if !ok || !is {
			t.Fatal("refused", a, b)
		}
		for _, x := range heldBy(source, a) {
			for _, y := range heldBy(source, b) {
				if !impl.IvMatHas(sum, mat(impl.MatAdd(x, y))) {
					t.Fatal("IvMatAdd", a, b, "has not what is made of", x, y)
				}
				if !impl.IvMatHas(product, mat(impl.MatMul(x, y))) {
					t.Fatal("IvMatMul", a, b, "has not what is made of", x, y)
				}
			}
		}
	}
}

// corners has all matrices with an end of v in each place.
func corners(v impl.IvMat) []impl.Mat {
	list := []impl.Mat{losOf(v)}
	for place, w := range v.A {
		for _, m := range slices.Clone(list) {
			list = append(list, with(m, place, w.Hi))
		}
	}
	return list
}

// Each end of a sum and of a product is a number of what two held matrices make: nothing less would hold all of them.
func TestIvMatSumsAndProductsAreTheLeast(t *testing.T) {
	source := rand.New(rand.NewSource(104))
	iv, mat := must[impl.IvMat](t), must[impl.Mat](t)
	for range 12 {
		a, b := smallIvMat(source, 2), smallIvMat(source, 2)
		sum, product := iv(impl.IvMatAdd(a, b)), iv(impl.IvMatMul(a, b))
		least, most := reached{}, reached{}
		for _, x := range corners(a) {
			for _, y := range corners(b) {
				least.take(sum, mat(impl.MatAdd(x, y)))
				most.take(product, mat(impl.MatMul(x, y)))
			}
		}
		if !least.all() || !most.all() {
			t.Fatal(a, b, sum, product, least, most)
		}
	}
}

// reached says of a matrix of N 2 which of its ends were met.
type reached struct {
	lo, hi [4]bool
}

func (r *reached) take(v impl.IvMat, m impl.Mat) {
	for i, d := range m.A {
		r.lo[i] = r.lo[i] || impl.DyCmp(d, v.A[i].Lo) == 0
		r.hi[i] = r.hi[i] || impl.DyCmp(d, v.A[i].Hi) == 0
	}
}

func (r *reached) all() bool { return r.lo == [4]bool{true, true, true, true} && r.hi == r.lo }

// Numbers of all lengths and powers: some of the answers may be told, some not.
func TestIvMatSumsAndProductsOfFarNumbers(t *testing.T) {
	source := rand.New(rand.NewSource(105))
	list := farIvs()
	sums, products := 0, 0
	for i := range 1500 {
		n := 1 + i%impl.MaxN
		a, b := sameIvs(n, impl.Iv{}), sameIvs(n, impl.Iv{})
		for place := range n * n {
			if source.Intn(1+n) == 0 {
				a.A[place] = list[source.Intn(len(list))]
			}
			if source.Intn(1+n) == 0 {
				b.A[place] = list[source.Intn(len(list))]
			}
		}
		if _, ok := sameHeldSum(t, a, b); ok {
			sums++
		}
		if _, ok := sameHeldProduct(t, a, b); ok {
			products++
		}
		sameMiddles(t, a)
		sameWide(t, a)
	}
	if sums < 200 || sums > 1300 || products < 200 || products > 1300 {
		t.Fatal("of 1500 are told:", sums, products)
	}
}

func TestIvMatLiterals(t *testing.T) {
	rows := []struct {
		n                  int
		a, b, sum, product [][2]int
	}{
		{1, [][2]int{{-2, 3}}, [][2]int{{-5, 4}}, [][2]int{{-7, 7}}, [][2]int{{-15, 12}}},
		{1, [][2]int{{-2, -2}}, [][2]int{{0, 4}}, [][2]int{{-2, 2}}, [][2]int{{-8, 0}}},
		{2, [][2]int{{1, 2}, {0, 0}, {-1, 1}, {3, 3}}, [][2]int{{0, 1}, {2, 2}, {-4, -1}, {5, 7}},
			[][2]int{{1, 3}, {2, 2}, {-5, 0}, {8, 10}}, [][2]int{{0, 2}, {2, 4}, {-13, -2}, {13, 23}}},
		{2, [][2]int{{0, 1}, {2, 2}, {-4, -1}, {5, 7}}, [][2]int{{1, 2}, {0, 0}, {-1, 1}, {3, 3}},
			[][2]int{{1, 3}, {2, 2}, {-5, 0}, {8, 10}}, [][2]int{{-2, 4}, {6, 6}, {-15, 6}, {15, 21}}},
		{3, [][2]int{{0, 0}, {1, 1}, {0, 0}, {0, 0}, {0, 0}, {1, 1}, {1, 1}, {0, 0}, {0, 0}},
			[][2]int{{1, 2}, {3, 4}, {5, 6}, {-1, 0}, {-3, -2}, {-5, -4}, {0, 0}, {7, 7}, {-8, 9}},
			[][2]int{{1, 2}, {4, 5}, {5, 6}, {-1, 0}, {-3, -2}, {-4, -3}, {1, 1}, {7, 7}, {-8, 9}},
			[][2]int{{-1, 0}, {-3, -2}, {-5, -4}, {0, 0}, {7, 7}, {-8, 9}, {1, 2}, {3, 4}, {5, 6}}},
	}
	for _, row := range rows {
		for _, e := range []int{0, -1, 7, -900, 900} {
			a, b := ivMatInts(row.n, e, row.a...), ivMatInts(row.n, e, row.b...)
			got, ok := impl.IvMatAdd(a, b)
			sameAsIvMat(t, fmt.Sprint("IvMatAdd ", row, e), got, ok, ivMatInts(row.n, e, row.sum...))
			got, ok = impl.IvMatMul(a, b)
			sameAsIvMat(t, fmt.Sprint("IvMatMul ", row, e), got, ok, ivMatInts(row.n, 2*e, row.product...))
		}
	}
}

// Of matrices that hold one alone, what is made holds one alone: what MatAdd and MatMul make.
func TestIvMatOfSumsAndProducts(t *testing.T) {
	mat, iv := must[impl.Mat](t), must[impl.IvMat](t)
	for _, pair := range pairs(106, 20) {
		a, b := iv(impl.IvMatOf(pair[0])), iv(impl.IvMatOf(pair[1]))
		got, ok := impl.IvMatAdd(a, b)
		sameAsIvMat(t, "IvMatAdd", got, ok, pointsOf(mat(impl.MatAdd(pair[0], pair[1]))))
		got, ok = impl.IvMatMul(a, b)
		sameAsIvMat(t, "IvMatMul", got, ok, pointsOf(mat(impl.MatMul(pair[0], pair[1]))))
	}
	for _, v := range heldMats(107, 15) {
		one, nought := pointsOf(diagonal(v.N, dyInt(1, 0))), pointsOf(noughts(v.N))
		got, ok := impl.IvMatMul(v, one)
		sameAsIvMat(t, "times one", got, ok, v)
		got, ok = impl.IvMatMul(one, v)
		sameAsIvMat(t, "one times it", got, ok, v)
		got, ok = impl.IvMatMul(v, nought)
		sameAsIvMat(t, "times nought", got, ok, nought)
		got, ok = impl.IvMatAdd(nought, v)
		sameAsIvMat(t, "a sum with nought", got, ok, v)
	}
}

// divisors has both limits of k, and some between them.
func divisors() []int { return []int{1, 2, 3, 7, 10, 64, 65535, 65536, 65537, 999999, 1000000} }

func sameHeldQuotient(t *testing.T, a impl.IvMat, k int, low int) (impl.IvMat, bool) {
	t.Helper()
	want := &ends{n: a.N, e: low, told: true}
	by := new(big.Int).Lsh(big.NewInt(int64(k)), impl.MaxE)
	for _, v := range a.A {
		want.add(stepsOf(scaled(v.Lo), by, low, impl.RdDown), stepsOf(scaled(v.Hi), by, low, impl.RdUp))
	}
	got, ok := impl.IvMatDiv(a, k, low)
	want.same(t, "IvMatDiv", got, ok, a, k, low)
	return got, ok
}

func TestIvMatDiv(t *testing.T) {
	source := rand.New(rand.NewSource(108))
	for i, a := range heldMats(108, 12) {
		for j, k := range divisors() {
			for m, low := range fineLows() {
				if (i+j+m)%5 != 0 {
					continue
				}
				got, ok := sameHeldQuotient(t, a, k, low)
				if !ok {
					t.Fatal("refused", a, k, low)
				}
				holdsDivided(t, source, a, k, low, got)
			}
		}
	}
}

// holdsDivided is the promise: the quotient times k holds what was divided, and is as IvDiv makes it, number by number.
func holdsDivided(t *testing.T, source *rand.Rand, a impl.IvMat, k int, low int, got impl.IvMat) {
	t.Helper()
	by := dyInt(k, 0)
	back := must[impl.IvMat](t)(impl.IvMatMul(got, pointsOf(diagonal(a.N, by))))
	for _, m := range heldBy(source, a) {
		if !impl.IvMatHas(back, m) {
			t.Fatal("IvMatDiv", a, k, low, "times k has not", m)
		}
	}
	for i, v := range a.A {
		quotient, ok := impl.IvDiv(v, alone(by), low)
		sameAsIv(t, "IvMatDiv as IvDiv", got.A[i], ok, quotient)
	}
}

func TestIvMatDivLiterals(t *testing.T) {
	a := ivMatInts(2, 0, [2]int{1, 2}, [2]int{-7, -1}, [2]int{0, 0}, [2]int{-3, 6})
	rows := []struct {
		k, low, e int
		want      [][2]int
	}{
		{1, 0, 0, [][2]int{{1, 2}, {-7, -1}, {0, 0}, {-3, 6}}}, {3, 0, 0, [][2]int{{0, 1}, {-3, 0}, {0, 0}, {-1, 2}}}, {3, -2, -2, [][2]int{{1, 3}, {-10, -1}, {0, 0}, {-4, 8}}},
		{2, 0, 0, [][2]int{{0, 1}, {-4, 0}, {0, 0}, {-2, 3}}}, {2, -1, -1, [][2]int{{1, 2}, {-7, -1}, {0, 0}, {-3, 6}}}, {2, -200, -1, [][2]int{{1, 2}, {-7, -1}, {0, 0}, {-3, 6}}},
		{1, 200, 200, [][2]int{{0, 1}, {-1, 0}, {0, 0}, {-1, 1}}}, {1000000, 0, 0, [][2]int{{0, 1}, {-1, 0}, {0, 0}, {-1, 1}}}, {1000000, -20, -20, [][2]int{{1, 3}, {-8, -1}, {0, 0}, {-4, 7}}},
	}
	for _, row := range rows {
		got, ok := impl.IvMatDiv(a, row.k, row.low)
		sameAsIvMat(t, fmt.Sprint("IvMatDiv ", row), got, ok, ivMatInts(2, row.e, row.want...))
	}
}

func sameHeldOut(t *testing.T, a impl.IvMat, low int) {
	t.Helper()
	want := &ends{n: a.N, e: low, told: true}
	for _, v := range a.A {
		lo, _ := wantRound(v.Lo, low, impl.RdDown)
		hi, _ := wantRound(v.Hi, low, impl.RdUp)
		want.add(lo, hi)
	}
	got, ok := impl.IvMatOut(a, low)
	want.same(t, "IvMatOut", got, ok, a, low)
	if !ok || !impl.IvMatHas(got, losOf(a)) || !impl.IvMatHas(got, hisOf(a)) {
		t.Fatal("IvMatOut", a, low, "holds not all")
	}
	for i, v := range got.A {
		for _, end := range []impl.Dy{v.Lo, v.Hi} {
			if scaled(end).Sign() != 0 && end.E < low {
				t.Fatal("IvMatOut", a, low, "has an end that is no multiple")
			}
		}
		for _, less := range narrowed(v, low) {
			if impl.IvWithin(a.A[i], less) {
				t.Fatal("IvMatOut", a, low, "is not the least one")
			}
		}
	}
	again, ok := impl.IvMatOut(got, low)
	sameAsIvMat(t, "IvMatOut, again", again, ok, got)
}

func TestIvMatOut(t *testing.T) {
	mats := heldMats(109, 15)
	for i, v := range farIvs() {
		n := 1 + i%impl.MaxN
		mats = append(mats, withIv(sameIvs(n, ivInt(-1, 1, 1)), i%(n*n), v))
	}
	for i, a := range mats {
		for j, low := range fineLows() {
			if (i+j)%3 == 0 {
				sameHeldOut(t, a, low)
			}
		}
	}
	a := ivMatInts(2, -1, [2]int{1, 3}, [2]int{-3, -1}, [2]int{0, 0}, [2]int{-8, 5})
	rows := []struct {
		low  int
		want [][2]int
	}{
		{-1, [][2]int{{1, 3}, {-3, -1}, {0, 0}, {-8, 5}}}, {0, [][2]int{{0, 2}, {-2, 0}, {0, 0}, {-4, 3}}}, {1, [][2]int{{0, 1}, {-1, 0}, {0, 0}, {-2, 2}}},
		{2, [][2]int{{0, 1}, {-1, 0}, {0, 0}, {-1, 1}}}, {200, [][2]int{{0, 1}, {-1, 0}, {0, 0}, {-1, 1}}},
	}
	for _, row := range rows {
		got, ok := impl.IvMatOut(a, row.low)
		sameAsIvMat(t, fmt.Sprint("IvMatOut ", row), got, ok, ivMatInts(2, row.low, row.want...))
	}
	got, ok := impl.IvMatOut(a, -200)
	sameAsIvMat(t, "IvMatOut to more than enough", got, ok, a)
}

func sameFat(t *testing.T, a impl.IvMat, by impl.Dy) (impl.IvMat, bool) {
	t.Helper()
	want := &ends{n: a.N, e: -impl.MaxE, told: true}
	for _, v := range a.A {
		want.add(new(big.Int).Sub(scaled(v.Lo), scaled(by)), new(big.Int).Add(scaled(v.Hi), scaled(by)))
	}
	got, ok := impl.IvMatFat(a, by)
	want.same(t, "IvMatFat", got, ok, a, by)
	return got, ok
}

func TestIvMatFat(t *testing.T) {
	source := rand.New(rand.NewSource(110))
	bys := []impl.Dy{{}, dyInt(1, 0), dyInt(1, -200), dyInt(3, -5), dyInt(65537, 40), dyInt(1, 500), dy(plus(two(300), 1), -20)}
	for _, a := range heldMats(110, 8) {
		for _, by := range bys {
			got, ok := sameFat(t, a, by)
			if !ok {
				t.Fatal("refused", a, by)
			}
			for _, m := range heldBy(source, a) {
				for place := range m.A {
					nearTo(t, got, m, place, by)
				}
			}
		}
	}
	got, ok := impl.IvMatFat(ivMatInts(2, 0, [2]int{1, 2}, [2]int{-3, -3}, [2]int{0, 0}, [2]int{-1, 5}), dyInt(3, -1))
	sameAsIvMat(t, "IvMatFat", got, ok, ivMatInts(2, -1, [2]int{-1, 7}, [2]int{-9, -3}, [2]int{-3, 3}, [2]int{-5, 13}))
	all := farIvs()
	for i, by := range manyDys() {
		by.M.Neg = false
		for _, v := range []impl.Iv{all[i%len(all)], all[(7*i+3)%len(all)]} {
			n := 1 + i%impl.MaxN
			sameFat(t, withIv(sameIvs(n, ivInt(-1, 1, 1)), i%(n*n), v), by)
			sameFat(t, withIv(sameIvs(n, alone(by)), i%(n*n), v), by)
		}
	}
}

// nearTo asks for m with one number that is off by by.
func nearTo(t *testing.T, v impl.IvMat, m impl.Mat, place int, by impl.Dy) {
	t.Helper()
	number := must[impl.Dy](t)
	for _, d := range []impl.Dy{number(impl.DyAdd(m.A[place], by)), number(impl.DySub(m.A[place], by))} {
		if !impl.IvMatHas(v, with(m, place, d)) {
			t.Fatal("IvMatFat", v, "has not", d)
		}
	}
}

// sameMiddles asks that each middle is as far from Lo as from Hi.
func sameMiddles(t *testing.T, a impl.IvMat) bool {
	t.Helper()
	var want []*big.Int
	for _, v := range a.A {
		want = append(want, new(big.Int).Add(scaled(v.Lo), scaled(v.Hi)))
	}
	got, ok := impl.IvMatMid(a)
	sameMatTold(t, "IvMatMid", got, ok, a.N, want, -impl.MaxE-1)
	if ok && !impl.IvMatHas(a, got) {
		t.Fatal("IvMatMid", a, "is not held")
	}
	return ok
}

func TestIvMatMid(t *testing.T) {
	mats := heldMats(111, 40)
	for _, m := range ordinary(111, 10) {
		mats = append(mats, pointsOf(m))
	}
	for _, a := range mats {
		if !sameMiddles(t, a) {
			t.Fatal("refused", a)
		}
	}
	rows := []struct {
		lo, hi, twice int
	}{{1, 2, 3}, {-1, 2, 1}, {-3, 3, 0}, {-5, -2, -7}, {4, 4, 8}, {0, 0, 0}, {0, 7, 7}, {-1, 0, -1}}
	for _, row := range rows {
		for _, e := range []int{0, 1, -1, -2999, 2990} {
			got, ok := impl.IvMatMid(sameIvs(2, ivInt(row.lo, row.hi, e)))
			sameAsMat(t, fmt.Sprint("IvMatMid ", row, e), got, ok, matInts(2, e-1, row.twice, row.twice, row.twice, row.twice))
		}
	}
	got, ok := impl.IvMatMid(ivMatInts(2, 0, [2]int{1, 3}, [2]int{-1, 0}, [2]int{5, 5}, [2]int{-2, 8}))
	sameAsMat(t, "IvMatMid", got, ok, matInts(2, -1, 4, -1, 10, 6))
}

// sameWide goes through the columns, one by one.
func sameWide(t *testing.T, a impl.IvMat) bool {
	t.Helper()
	greatest := new(big.Int)
	for j := range a.N {
		sum := new(big.Int)
		for i := range a.N {
			v := a.A[i*a.N+j]
			sum.Add(sum, scaled(v.Hi)).Sub(sum, scaled(v.Lo))
		}
		if sum.Cmp(greatest) > 0 {
			greatest = sum
		}
	}
	got, ok := impl.IvMatWide(a)
	sameDyTold(t, fmt.Sprintf("IvMatWide of %v", a), got, ok, greatest, -impl.MaxE)
	return ok
}

func TestIvMatWide(t *testing.T) {
	for _, a := range heldMats(112, 40) {
		if !sameWide(t, a) {
			t.Fatal("refused", a)
		}
	}
	for _, m := range append(ordinary(112, 10), diagonal(4, dy(mostNat(), impl.MaxE)), diagonal(3, dyInt(-1, -impl.MaxE))) {
		got, ok := impl.IvMatWide(pointsOf(m))
		sameDyTold(t, "IvMatWide of one alone", got, ok, new(big.Int), 0)
	}
	// Of two matrices that are held no difference has a greater norm, and that of the ends has it.
	number, mat := must[impl.Dy](t), must[impl.Mat](t)
	source := rand.New(rand.NewSource(113))
	for _, a := range heldMats(113, 15) {
		wide := number(impl.IvMatWide(a))
		for _, x := range heldBy(source, a) {
			for _, y := range heldBy(source, a) {
				if impl.DyCmp(number(impl.MatNorm(mat(impl.MatSub(x, y)))), wide) > 0 {
					t.Fatal(a, x, y)
				}
			}
		}
		if !equalDys(wide, number(impl.MatNorm(mat(impl.MatSub(hisOf(a), losOf(a)))))) {
			t.Fatal(a, wide)
		}
	}
}

// The greatest sum of a row, the greatest width, the sum of all, and what the numbers' sizes make, are others than these.
func TestIvMatWideLiterals(t *testing.T) {
	rows := []struct {
		n    int
		list [][2]int
		wide int
	}{
		{1, [][2]int{{5, 5}}, 0}, {1, [][2]int{{-7, 2}}, 9}, {1, [][2]int{{2, 7}}, 5}, {1, [][2]int{{-7, -2}}, 5}, {2, [][2]int{{0, 9}, {0, 9}, {3, 3}, {4, 4}}, 9},
		{2, [][2]int{{0, 9}, {1, 1}, {-9, 0}, {0, 5}}, 18}, {2, [][2]int{{100, 101}, {-1, 1}, {-100, -99}, {2, 3}}, 3}, {2, [][2]int{{-1, 1}, {100, 101}, {2, 3}, {-100, -99}}, 3},
		{3, [][2]int{{0, 1}, {0, 2}, {0, 3}, {0, 0}, {0, 0}, {0, 0}, {0, 0}, {0, 0}, {0, 0}}, 3}, {3, [][2]int{{0, 1}, {0, 0}, {0, 0}, {0, 2}, {0, 0}, {0, 0}, {-3, 0}, {0, 0}, {0, 0}}, 6},
		{3, [][2]int{{7, 7}, {0, 2}, {1, 2}, {9, 9}, {0, 2}, {1, 2}, {0, 5}, {-1, 1}, {1, 2}}, 6},
		{4, [][2]int{{0, 8}, {0, 8}, {0, 8}, {0, 8}, {1, 1}, {1, 1}, {1, 1}, {1, 1}, {1, 1}, {1, 1}, {1, 1}, {1, 1}, {1, 1}, {1, 1}, {1, 1}, {1, 1}}, 8},
		{4, [][2]int{{0, 1}, {0, 0}, {0, 0}, {0, 2}, {0, 1}, {0, 0}, {0, 0}, {0, 2}, {0, 1}, {0, 0}, {0, 0}, {-1, 1}, {0, 1}, {0, 0}, {0, 0}, {-2, 0}}, 8},
	}
	for _, row := range rows {
		for _, e := range []int{0, -3, 100, -impl.MaxE} {
			got, ok := impl.IvMatWide(ivMatInts(row.n, e, row.list...))
			sameDyTold(t, fmt.Sprint("IvMatWide ", row, e), got, ok, big.NewInt(int64(row.wide)), e)
		}
	}
}

// sameMeets asks it both ways round.
func sameMeets(t *testing.T, a impl.IvMat, b impl.IvMat, want bool) {
	t.Helper()
	if impl.IvMatMeets(a, b) != want || impl.IvMatMeets(b, a) != want {
		t.Fatal("IvMatMeets", a, b, "is not", want)
	}
}

// besides has intervals that have one number alone with v in common, and such that have none, just beyond an end.
func besides(v impl.Iv) ([]impl.Iv, []impl.Iv) {
	least := dyInt(1, -impl.MaxE)
	most := dy(mostNat(), impl.MaxE)
	touch := []impl.Iv{alone(v.Lo), alone(v.Hi), {Lo: v.Hi, Hi: most}, {Lo: impl.DyNeg(most), Hi: v.Lo}}
	var apart []impl.Iv
	for _, step := range []impl.Dy{least, dyInt(1, -900), dyInt(1, 0), dyInt(1, impl.MaxE)} {
		if above, ok := impl.DyAdd(v.Hi, step); ok {
			apart = append(apart, alone(above), impl.Iv{Lo: above, Hi: most})
		}
		if below, ok := impl.DySub(v.Lo, step); ok {
			apart = append(apart, alone(below), impl.Iv{Lo: impl.DyNeg(most), Hi: below})
		}
	}
	return touch, apart
}

func TestIvMatMeets(t *testing.T) {
	source := rand.New(rand.NewSource(114))
	for _, a := range heldMats(114, 10) {
		sameMeets(t, a, a, true)
		for _, m := range heldBy(source, a) {
			sameMeets(t, a, pointsOf(m), true)
		}
		for place, v := range a.A {
			touch, apart := besides(v)
			for _, w := range touch {
				sameMeets(t, a, withIv(a, place, w), true)
				sameMeets(t, a, withIv(pointsOf(losOf(a)), place, w), true)
			}
			for _, w := range apart {
				sameMeets(t, a, withIv(a, place, w), false)
				sameMeets(t, a, withIv(pointsOf(hisOf(a)), place, w), false)
			}
		}
	}
	for _, pair := range heldPairs(115, 40) {
		want := true
		for i, v := range pair[0].A {
			_, ok := impl.IvMeet(v, pair[1].A[i])
			want = want && ok
		}
		sameMeets(t, pair[0], pair[1], want)
	}
}

// One matrix alone is held by both: each place has an end in common, and that is all.
func TestIvMatMeetsInOneMatrixAlone(t *testing.T) {
	for n := 1; n <= impl.MaxN; n++ {
		a, b := sameIvs(n, ivInt(-3, 1, -2)), sameIvs(n, ivInt(1, 9, -2))
		for i := range n * n {
			if i%2 == 1 {
				a.A[i], b.A[i] = b.A[i], a.A[i]
			}
		}
		sameMeets(t, a, b, true)
		common := matOf(n, slices.Repeat([]impl.Dy{dyInt(1, -2)}, n*n)...)
		if !impl.IvMatHas(a, common) || !impl.IvMatHas(b, common) {
			t.Fatal(n)
		}
		for place := range n * n {
			for _, off := range []impl.Dy{dyInt(1, -3000), dyInt(-1, -3000)} {
				moved, _ := impl.DyAdd(dyInt(1, -2), off)
				if other := with(common, place, moved); impl.IvMatHas(a, other) && impl.IvMatHas(b, other) {
					t.Fatal(n, place)
				}
				v := a.A[place]
				if impl.DyCmp(v.Hi, dyInt(1, -2)) == 0 {
					v = impl.Iv{Lo: v.Lo, Hi: moved}
				} else {
					v = impl.Iv{Lo: moved, Hi: v.Hi}
				}
				// Moved away from the other one, they have nothing in common there.
				sameMeets(t, withIv(a, place, v), b, impl.IvHas(v, dyInt(1, -2)))
			}
		}
	}
	sameMeets(t, ivMatOf(1, impl.Iv{}), ivMatOf(1, impl.Iv{Hi: impl.Dy{M: impl.Whole{A: impl.Nat{L: []int{}}}}}), true)
	sameMeets(t, impl.IvMat{}, impl.IvMat{}, false)
	for n := 1; n <= impl.MaxN; n++ {
		for k := 1; k <= impl.MaxN; k++ {
			sameMeets(t, sameIvs(n, ivInt(-1, 1, 0)), sameIvs(k, ivInt(0, 2, 0)), n == k)
		}
	}
}
