package tests

import (
	"fmt"
	"math"
	"math/big"
	"math/rand"
	"slices"
	"testing"

	"loop.example/g00382/impl"
)

// matRoom is how many numbers lie in the spare room behind a matrix that a test makes.
const matRoom = 3

// matOf has these numbers row by row, whether they are as many as N wants or not, with spare room behind them.
func matOf(n int, numbers ...impl.Dy) impl.Mat {
	all := slices.Clone(numbers)
	for i := range matRoom {
		all = append(all, dyInt(-4711, i))
	}
	return impl.Mat{N: n, A: all[:len(numbers)]}
}

// matInts has these numbers times 2^e.
func matInts(n int, e int, numbers ...int) impl.Mat {
	var list []impl.Dy
	for _, x := range numbers {
		list = append(list, dyInt(x, e))
	}
	return matOf(n, list...)
}

// noughts has nothing but 0.
func noughts(n int) impl.Mat { return matOf(n, make([]impl.Dy, n*n)...) }

// diagonal has d on its way down.
func diagonal(n int, d impl.Dy) impl.Mat {
	m := noughts(n)
	for i := range n {
		m.A[i*n+i] = dy(bigOfWhole(d.M), d.E)
	}
	return m
}

// with is m with d at one place.
func with(m impl.Mat, place int, d impl.Dy) impl.Mat {
	list := slices.Clone(m.A)
	list[place] = d
	return matOf(m.N, list...)
}

// someMat has numbers of some limbs beside powers of two of both signs, below 0, above 0 and 0.
func someMat(source *rand.Rand, n int, limbs int, far int) impl.Mat {
	var list []impl.Dy
	for range n * n {
		d := someDy(source, limbs, far)
		if source.Intn(6) == 0 {
			d = impl.Dy{}
		}
		list = append(list, d)
	}
	return matOf(n, list...)
}

// smallMat has small whole numbers.
func smallMat(source *rand.Rand, n int) impl.Mat {
	var list []int
	for range n * n {
		list = append(list, source.Intn(19)-9)
	}
	return matInts(n, 0, list...)
}

// ordinary has matrices of N 1 to 4: small whole numbers, and others of some limbs and powers.
func ordinary(seed int64, many int) []impl.Mat {
	source := rand.New(rand.NewSource(seed))
	var list []impl.Mat
	for n := 1; n <= impl.MaxN; n++ {
		for i := range many {
			list = append(list, smallMat(source, n), someMat(source, n, 1+i%8, 1+10*i%60))
		}
	}
	return list
}

// pairs has two matrices of one N each, with any in any place.
func pairs(seed int64, many int) [][2]impl.Mat {
	first, second := ordinary(seed, many), ordinary(seed+1000, many)
	var list [][2]impl.Mat
	for i, a := range first {
		list = append(list, [2]impl.Mat{a, second[i]}, [2]impl.Mat{a, second[i^1]})
	}
	return list
}

// scaledMat has the numbers times 2^MaxE, row by row.
func scaledMat(m impl.Mat) []*big.Int {
	var list []*big.Int
	for _, d := range m.A {
		list = append(list, scaled(d))
	}
	return list
}

func refusedMat(t *testing.T, name string, got impl.Mat, ok bool) {
	t.Helper()
	if ok || got.N != 0 || len(got.A) != 0 {
		t.Fatal(name, got, ok)
	}
}

// sameMatTold fails unless got has want times 2^e where all of that may be told, else it must be the zero value and false.
func sameMatTold(t *testing.T, name string, got impl.Mat, ok bool, n int, want []*big.Int, e int) {
	t.Helper()
	told := !slices.ContainsFunc(want, func(x *big.Int) bool { return !dyTellable(x, e) })
	if ok != told {
		t.Fatalf("%s: %t, of %v times 2^%d", name, ok, want, e)
	}
	if !ok {
		refusedMat(t, name, got, ok)
		return
	}
	if got.N != n || len(got.A) != n*n || !impl.MatOk(got) {
		t.Fatalf("%s is %v", name, got)
	}
	for i, x := range want {
		sameDy(t, fmt.Sprint(name, ", number ", i), got.A[i], x, e)
	}
}

func sameAsMat(t *testing.T, name string, got impl.Mat, ok bool, want impl.Mat) {
	t.Helper()
	sameMatTold(t, name, got, ok, want.N, scaledMat(want), -impl.MaxE)
}

// wantSum is a plus sign times b, number by number.
func wantSum(a impl.Mat, b impl.Mat, sign int64) []*big.Int {
	var list []*big.Int
	for i := range a.A {
		term := new(big.Int).Mul(scaled(b.A[i]), big.NewInt(sign))
		list = append(list, term.Add(term, scaled(a.A[i])))
	}
	return list
}

// timesBig is the product of two matrices of whole numbers, row by row.
func timesBig(n int, a []*big.Int, b []*big.Int) []*big.Int {
	var list []*big.Int
	for i := range n {
		for j := range n {
			sum := new(big.Int)
			for k := range n {
				sum.Add(sum, new(big.Int).Mul(a[i*n+k], b[k*n+j]))
			}
			list = append(list, sum)
		}
	}
	return list
}

func sameSum(t *testing.T, a impl.Mat, b impl.Mat) {
	t.Helper()
	got, ok := impl.MatAdd(a, b)
	sameMatTold(t, fmt.Sprintf("MatAdd of %v and %v", a, b), got, ok, a.N, wantSum(a, b, 1), -impl.MaxE)
	got, ok = impl.MatSub(a, b)
	sameMatTold(t, fmt.Sprintf("MatSub of %v and %v", a, b), got, ok, a.N, wantSum(a, b, -1), -impl.MaxE)
}

func sameProduct(t *testing.T, a impl.Mat, b impl.Mat) {
	t.Helper()
	got, ok := impl.MatMul(a, b)
	sameMatTold(t, fmt.Sprintf("MatMul of %v and %v", a, b), got, ok, a.N, timesBig(a.N, scaledMat(a), scaledMat(b)), -2*impl.MaxE)
}

// must gives what a call answered, where it must not refuse.
func must[T any](t *testing.T) func(answer T, ok bool) T {
	return func(answer T, ok bool) T {
		t.Helper()
		if !ok {
			t.Fatal("refused")
		}
		return answer
	}
}

func mustEq(t *testing.T, name string, a impl.Mat, b impl.Mat) {
	t.Helper()
	if !impl.MatEq(a, b) || !slices.EqualFunc(a.A, b.A, equalDys) {
		t.Fatalf("%s: %v is not %v", name, a, b)
	}
}

func TestMatOk(t *testing.T) {
	if impl.MaxN != 4 {
		t.Fatal(impl.MaxN)
	}
	for _, n := range []int{math.MinInt, -1 << 32, -5, -4, -2, -1, 0, 1, 2, 3, 4, 5, 6, 1 << 32, 1<<32 + 2, 1 << 62, math.MaxInt} {
		for length := range 40 {
			m := matOf(n, slices.Repeat([]impl.Dy{dyInt(3, -1)}, length)...)
			if impl.MatOk(m) != (n >= 1 && n <= 4 && length == n*n) {
				t.Fatal(n, length)
			}
		}
		if impl.MatOk(impl.Mat{N: n}) || impl.MatOk(impl.Mat{N: n, A: []impl.Dy{}}) {
			t.Fatal(n)
		}
	}
	for _, m := range ordinary(80, 20) {
		if !impl.MatOk(m) {
			t.Fatal(m)
		}
	}
	for _, d := range manyDys() {
		for n := 1; n <= impl.MaxN; n++ {
			if !impl.MatOk(matOf(n, slices.Repeat([]impl.Dy{d}, n*n)...)) {
				t.Fatal(n, d)
			}
		}
	}
	// 0 is one value, whether its list is nil or empty.
	if !impl.MatOk(impl.Mat{N: 1, A: []impl.Dy{{}}}) || !impl.MatOk(matOf(1, impl.Dy{M: impl.Whole{A: impl.Nat{L: []int{}}}})) {
		t.Fatal("0")
	}
}

func TestMatOkWantsEachNumber(t *testing.T) {
	for _, m := range badMats() {
		if impl.MatOk(m) {
			t.Fatal(m)
		}
	}
}

func TestMatId(t *testing.T) {
	wants := [][]int{1: {1}, 2: {1, 0, 0, 1}, 3: {1, 0, 0, 0, 1, 0, 0, 0, 1}, 4: {1, 0, 0, 0, 0, 1, 0, 0, 0, 0, 1, 0, 0, 0, 0, 1}}
	for n := 1; n <= impl.MaxN; n++ {
		got, ok := impl.MatId(n)
		sameAsMat(t, fmt.Sprint("MatId ", n), got, ok, matInts(n, 0, wants[n]...))
	}
	for _, n := range []int{0, -1, -2, -4, 5, 6, 16, 1 << 32, 1<<32 + 1, 1 << 62, math.MaxInt, math.MinInt} {
		got, ok := impl.MatId(n)
		refusedMat(t, fmt.Sprint("MatId ", n), got, ok)
	}
}

func TestMatAt(t *testing.T) {
	for _, m := range ordinary(81, 10) {
		for i := -2; i <= m.N+2; i++ {
			for j := -2; j <= m.N+2; j++ {
				got, ok := impl.MatAt(m, i, j)
				if i < 0 || i >= m.N || j < 0 || j >= m.N {
					refusedDy(t, fmt.Sprint("MatAt ", m.N, i, j), got, ok)
					continue
				}
				sameDyTold(t, fmt.Sprint("MatAt ", m.N, i, j), got, ok, scaled(m.A[i*m.N+j]), -impl.MaxE)
			}
		}
	}
	m := matInts(3, 0, 11, 12, 13, 21, 22, 23, 31, 32, 33)
	for i := range 3 {
		for j := range 3 {
			got, ok := impl.MatAt(m, i, j)
			sameDyTold(t, "MatAt", got, ok, big.NewInt(int64(10*i+j+11)), 0)
		}
	}
	far := []int{math.MinInt, -1 << 32, -3, -1, 3, 4, 1 << 32, 1 << 62, math.MaxInt}
	for _, wrong := range far {
		for _, place := range append(slices.Clone(far), 0, 1, 2) {
			got, ok := impl.MatAt(m, wrong, place)
			refusedDy(t, fmt.Sprint("MatAt ", wrong, place), got, ok)
			got, ok = impl.MatAt(m, place, wrong)
			refusedDy(t, fmt.Sprint("MatAt ", place, wrong), got, ok)
		}
	}
}

// copyMat is alike, and shares no list.
func copyMat(m impl.Mat) impl.Mat {
	var list []impl.Dy
	for _, d := range m.A {
		list = append(list, dy(bigOfWhole(d.M), d.E))
	}
	return matOf(m.N, list...)
}

func TestMatEq(t *testing.T) {
	others := []func(d impl.Dy) impl.Dy{nextTo, impl.DyNeg, func(d impl.Dy) impl.Dy { d.E++; return d }}
	for _, m := range ordinary(82, 12) {
		if !impl.MatEq(m, m) || !impl.MatEq(m, copyMat(m)) || !impl.MatEq(copyMat(m), m) {
			t.Fatal(m)
		}
		for place, d := range m.A {
			for _, other := range others {
				if scaled(d).Sign() == 0 {
					d = dyInt(1, -impl.MaxE)
				}
				unlike := with(m, place, other(d))
				if impl.MatEq(m, unlike) || impl.MatEq(unlike, m) || !impl.MatOk(unlike) {
					t.Fatal(m, unlike)
				}
			}
		}
	}
	for n := 1; n <= impl.MaxN; n++ {
		for k := 1; k <= impl.MaxN; k++ {
			if impl.MatEq(noughts(n), noughts(k)) != (n == k) || impl.MatEq(diagonal(n, dyInt(1, 0)), diagonal(k, dyInt(1, 0))) != (n == k) {
				t.Fatal(n, k)
			}
		}
	}
	empty := impl.Dy{M: impl.Whole{A: impl.Nat{L: []int{}}}}
	if !impl.MatEq(matOf(2, empty, empty, empty, empty), impl.Mat{N: 2, A: make([]impl.Dy, 4)}) {
		t.Fatal("an empty list and nil are the same value")
	}
	if impl.MatEq(matInts(2, 0, 1, 2, 3, 4), matInts(2, 0, 1, 3, 2, 4)) || impl.MatEq(impl.Mat{}, impl.Mat{}) {
		t.Fatal("unlike ones, or none")
	}
}

func TestMatSumsAndProducts(t *testing.T) {
	for _, pair := range pairs(83, 40) {
		sameSum(t, pair[0], pair[1])
		sameSum(t, pair[0], pair[0])
		sameProduct(t, pair[0], pair[1])
		sameProduct(t, pair[1], pair[0])
		sameProduct(t, pair[0], pair[0])
	}
}

// Numbers of all lengths and powers: some of the answers may be told, some not.
func TestMatSumsAndProductsOfFarNumbers(t *testing.T) {
	source := rand.New(rand.NewSource(84))
	numbers := manyDys()
	told := 0
	for i := range 1500 {
		n := 1 + i%impl.MaxN
		a, b := noughts(n), noughts(n)
		for place := range n * n {
			if source.Intn(1+n) == 0 {
				a.A[place] = numbers[source.Intn(len(numbers))]
			}
			if source.Intn(1+n) == 0 {
				b.A[place] = numbers[source.Intn(len(numbers))]
			}
		}
		sameSum(t, a, b)
		sameProduct(t, a, b)
		sameNorm(t, a)
		sameTrace(t, a)
		if _, ok := impl.MatMul(a, b); ok {
			told++
		}
	}
	if told < 300 || told > 1300 {
		t.Fatal("of 1500 products are told:", told)
	}
}

func TestMatLiterals(t *testing.T) {
	rows := []struct {
		n                    int
		a, b                 []int
		sum, rest, ab, ba    []int
		norm, trace          int
		turned, minus3, cube []int
	}{
		{1, []int{-3}, []int{5}, []int{2}, []int{-8}, []int{-15}, []int{-15}, 3, -3, []int{-3}, []int{9}, []int{-27}},
		{2, []int{1, 2, 3, 4}, []int{0, -1, 5, 2}, []int{1, 1, 8, 6}, []int{1, 3, -2, 2}, []int{10, 3, 20, 5}, []int{-3, -4, 11, 18}, 6, 5,
			[]int{1, 3, 2, 4}, []int{-3, -6, -9, -12}, []int{37, 54, 81, 118}},
		{2, []int{-7, 1, 0, 1}, []int{2, 0, 0, 2}, []int{-5, 1, 0, 3}, []int{-9, 1, 0, -1}, []int{-14, 2, 0, 2}, []int{-14, 2, 0, 2}, 7, -6,
			[]int{-7, 0, 1, 1}, []int{21, -3, 0, -3}, []int{-343, 43, 0, 1}},
		{3, []int{1, 0, 2, -1, 3, 0, 4, -2, 1}, []int{0, 1, 0, 0, 0, 1, 1, 0, 0}, []int{1, 1, 2, -1, 3, 1, 5, -2, 1}, []int{1, -1, 2, -1, 3, -1, 3, -2, 1},
			[]int{2, 1, 0, 0, -1, 3, 1, 4, -2}, []int{-1, 3, 0, 4, -2, 1, 1, 0, 2}, 6, 5, []int{1, -1, 4, 0, 3, -2, 2, 0, 1},
			[]int{-3, 0, -6, 3, -9, 0, -12, 6, -3}, []int{29, -20, 22, -21, 31, -10, 54, -42, 29}},
		{4, []int{0, 1, 0, 0, 0, 0, 1, 0, 0, 0, 0, 1, 0, 0, 0, 0}, []int{1, 2, 3, 4, 5, 6, 7, 8, 9, 10, 11, 12, 13, 14, 15, 16},
			[]int{1, 3, 3, 4, 5, 6, 8, 8, 9, 10, 11, 13, 13, 14, 15, 16}, []int{-1, -1, -3, -4, -5, -6, -6, -8, -9, -10, -11, -11, -13, -14, -15, -16},
			[]int{5, 6, 7, 8, 9, 10, 11, 12, 13, 14, 15, 16, 0, 0, 0, 0}, []int{0, 1, 2, 3, 0, 5, 6, 7, 0, 9, 10, 11, 0, 13, 14, 15}, 1, 0,
			[]int{0, 0, 0, 0, 1, 0, 0, 0, 0, 1, 0, 0, 0, 0, 1, 0}, []int{0, -3, 0, 0, 0, 0, -3, 0, 0, 0, 0, -3, 0, 0, 0, 0},
			[]int{0, 0, 0, 1, 0, 0, 0, 0, 0, 0, 0, 0, 0, 0, 0, 0}},
	}
	for _, row := range rows {
		for _, e := range []int{0, -1, 7, -900, 900} {
			a, b := matInts(row.n, e, row.a...), matInts(row.n, e, row.b...)
			name := fmt.Sprint(" of ", row.a, row.b, e)
			got, ok := impl.MatAdd(a, b)
			sameAsMat(t, "MatAdd"+name, got, ok, matInts(row.n, e, row.sum...))
			got, ok = impl.MatSub(a, b)
			sameAsMat(t, "MatSub"+name, got, ok, matInts(row.n, e, row.rest...))
			got, ok = impl.MatMul(a, b)
			sameAsMat(t, "MatMul"+name, got, ok, matInts(row.n, 2*e, row.ab...))
			got, ok = impl.MatMul(b, a)
			sameAsMat(t, "MatMul the other way round"+name, got, ok, matInts(row.n, 2*e, row.ba...))
			got, ok = impl.MatTurn(a)
			sameAsMat(t, "MatTurn"+name, got, ok, matInts(row.n, e, row.turned...))
			got, ok = impl.MatScale(a, dyInt(-3, 5))
			sameAsMat(t, "MatScale"+name, got, ok, matInts(row.n, e+5, row.minus3...))
			got, ok = impl.MatPow(a, 3)
			sameAsMat(t, "MatPow"+name, got, ok, matInts(row.n, 3*e, row.cube...))
			d, ok := impl.MatNorm(a)
			sameDyTold(t, "MatNorm"+name, d, ok, big.NewInt(int64(row.norm)), e)
			d, ok = impl.MatTrace(a)
			sameDyTold(t, "MatTrace"+name, d, ok, big.NewInt(int64(row.trace)), e)
		}
	}
}

func TestMatProductOfASum(t *testing.T) {
	mat := must[impl.Mat](t)
	first, second, third := ordinary(85, 40), ordinary(86, 40), ordinary(87, 40)
	for i := range first {
		a, b, c := first[i], second[i^1], third[i]
		sum := mat(impl.MatAdd(b, c))
		left := mat(impl.MatMul(a, sum))
		mustEq(t, "a sum behind", left, mat(impl.MatAdd(mat(impl.MatMul(a, b)), mat(impl.MatMul(a, c)))))
		right := mat(impl.MatMul(sum, a))
		mustEq(t, "a sum ahead", right, mat(impl.MatAdd(mat(impl.MatMul(b, a)), mat(impl.MatMul(c, a)))))
		rest := mat(impl.MatSub(b, c))
		mustEq(t, "a difference behind", mat(impl.MatMul(a, rest)), mat(impl.MatSub(mat(impl.MatMul(a, b)), mat(impl.MatMul(a, c)))))
		mustEq(t, "sums in any order", sum, mat(impl.MatAdd(c, b)))
		mustEq(t, "sums of three", mat(impl.MatAdd(a, sum)), mat(impl.MatAdd(mat(impl.MatAdd(a, b)), c)))
		mustEq(t, "products of three", mat(impl.MatMul(a, mat(impl.MatMul(b, c)))), mat(impl.MatMul(mat(impl.MatMul(a, b)), c)))
		mustEq(t, "what is taken off and put back", b, mat(impl.MatAdd(rest, c)))
	}
}

func TestMatOneAndNought(t *testing.T) {
	mat := must[impl.Mat](t)
	var far []impl.Mat
	for i, d := range manyDys() {
		n := 1 + i%impl.MaxN
		far = append(far, with(diagonal(n, nextTo(d)), i%(n*n), d))
	}
	for _, m := range append(ordinary(88, 30), far...) {
		one, nought := mat(impl.MatId(m.N)), noughts(m.N)
		mustEq(t, "one ahead", mat(impl.MatMul(one, m)), m)
		mustEq(t, "one behind", mat(impl.MatMul(m, one)), m)
		mustEq(t, "nought ahead", mat(impl.MatMul(nought, m)), nought)
		mustEq(t, "nought behind", mat(impl.MatMul(m, nought)), nought)
		mustEq(t, "a sum with nought", mat(impl.MatAdd(m, nought)), m)
		mustEq(t, "a sum of nought", mat(impl.MatAdd(nought, m)), m)
		mustEq(t, "without nought", mat(impl.MatSub(m, nought)), m)
		mustEq(t, "without itself", mat(impl.MatSub(m, m)), nought)
		mustEq(t, "nought without it", mat(impl.MatSub(nought, m)), mat(impl.MatScale(m, dyInt(-1, 0))))
		mustEq(t, "times one", mat(impl.MatScale(m, dyInt(1, 0))), m)
		mustEq(t, "times nought", mat(impl.MatScale(m, impl.Dy{})), nought)
	}
}

func TestMatTurn(t *testing.T) {
	mat := must[impl.Mat](t)
	for _, pair := range pairs(89, 30) {
		a, b := pair[0], pair[1]
		turned := mat(impl.MatTurn(a))
		for i := range a.N {
			for j := range a.N {
				sameDy(t, "MatTurn", turned.A[j*a.N+i], scaled(a.A[i*a.N+j]), -impl.MaxE)
			}
		}
		mustEq(t, "turned twice", mat(impl.MatTurn(turned)), a)
		other := mat(impl.MatTurn(b))
		mustEq(t, "a product turned", mat(impl.MatTurn(mat(impl.MatMul(a, b)))), mat(impl.MatMul(other, turned)))
		mustEq(t, "a sum turned", mat(impl.MatTurn(mat(impl.MatAdd(a, b)))), mat(impl.MatAdd(turned, other)))
	}
	// Turned the same way round, a product would be another one.
	a, b := matInts(2, 0, 1, 2, 3, 4), matInts(2, 0, 0, 1, 1, 1)
	if impl.MatEq(mat(impl.MatTurn(mat(impl.MatMul(a, b)))), mat(impl.MatMul(mat(impl.MatTurn(a)), mat(impl.MatTurn(b))))) {
		t.Fatal("a product of these hangs on the way round")
	}
	for n := 1; n <= impl.MaxN; n++ {
		m := matOf(n, slices.Repeat([]impl.Dy{dy(mostNat(), impl.MaxE), dyInt(-1, -impl.MaxE), {}}, 6)[:n*n]...)
		mustEq(t, "turned twice", mat(impl.MatTurn(mat(impl.MatTurn(m)))), m)
	}
}

func sameTrace(t *testing.T, m impl.Mat) {
	t.Helper()
	sum := new(big.Int)
	for i := range m.N {
		sum.Add(sum, scaled(m.A[i*m.N+i]))
	}
	got, ok := impl.MatTrace(m)
	sameDyTold(t, fmt.Sprintf("MatTrace of %v", m), got, ok, sum, -impl.MaxE)
}

// sameNorm goes through the columns, one by one.
func sameNorm(t *testing.T, m impl.Mat) {
	t.Helper()
	greatest := new(big.Int)
	for j := range m.N {
		sum := new(big.Int)
		for i := range m.N {
			sum.Add(sum, new(big.Int).Abs(scaled(m.A[i*m.N+j])))
		}
		if sum.Cmp(greatest) > 0 {
			greatest = sum
		}
	}
	got, ok := impl.MatNorm(m)
	sameDyTold(t, fmt.Sprintf("MatNorm of %v", m), got, ok, greatest, -impl.MaxE)
}

func TestMatTrace(t *testing.T) {
	mat, number := must[impl.Mat](t), must[impl.Dy](t)
	for _, pair := range pairs(90, 40) {
		a, b := pair[0], pair[1]
		sameTrace(t, a)
		sameTrace(t, b)
		round, other := number(impl.MatTrace(mat(impl.MatMul(a, b)))), number(impl.MatTrace(mat(impl.MatMul(b, a))))
		if !equalDys(round, other) {
			t.Fatal(a, b, round, other)
		}
		if !equalDys(number(impl.MatTrace(a)), number(impl.MatTrace(mat(impl.MatTurn(a))))) {
			t.Fatal(a)
		}
		sum := number(impl.DyAdd(number(impl.MatTrace(a)), number(impl.MatTrace(b))))
		if !equalDys(sum, number(impl.MatTrace(mat(impl.MatAdd(a, b))))) {
			t.Fatal(a, b)
		}
	}
}

func TestMatNorm(t *testing.T) {
	mat, number := must[impl.Mat](t), must[impl.Dy](t)
	less := 0
	for _, pair := range pairs(91, 40) {
		a, b := pair[0], pair[1]
		sameNorm(t, a)
		sameNorm(t, b)
		first, second := number(impl.MatNorm(a)), number(impl.MatNorm(b))
		sum, product := number(impl.DyAdd(first, second)), number(impl.DyMul(first, second))
		if impl.DyCmp(number(impl.MatNorm(mat(impl.MatAdd(a, b)))), sum) > 0 || impl.DyCmp(number(impl.MatNorm(mat(impl.MatSub(a, b)))), sum) > 0 {
			t.Fatal("the norm of a sum", a, b)
		}
		order := impl.DyCmp(number(impl.MatNorm(mat(impl.MatMul(a, b)))), product)
		if order > 0 || impl.DyCmp(number(impl.MatNorm(mat(impl.MatMul(b, a)))), product) > 0 {
			t.Fatal("the norm of a product", a, b)
		}
		if order < 0 {
			less++
		}
		by := b.A[0]
		scaledNorm := number(impl.DyMul(first, number(impl.MatNorm(matOf(1, by)))))
		if !equalDys(number(impl.MatNorm(mat(impl.MatScale(a, by)))), scaledNorm) {
			t.Fatal("the norm of a multiple", a, by)
		}
	}
	if less == 0 {
		t.Fatal("no product has a norm below the norms' product")
	}
}

// The greatest sum of a row, the greatest number, the sum of all and the greatest true sum of a column are others than these.
func TestMatNormLiterals(t *testing.T) {
	rows := []struct {
		n    int
		list []int
		norm int
	}{
		{1, []int{0}, 0}, {1, []int{-7}, 7}, {2, []int{0, 0, 0, 0}, 0}, {2, []int{1, 9, 1, 2}, 11}, {2, []int{9, 9, 0, 0}, 9}, {2, []int{9, 0, 9, 0}, 18},
		{2, []int{5, -6, -5, 1}, 10}, {2, []int{-1, 2, -3, 2}, 4}, {3, []int{1, 2, 3, 0, 0, 0, 0, 0, 0}, 3}, {3, []int{1, 0, 0, 2, 0, 0, -3, 0, 0}, 6},
		{3, []int{0, 4, 0, 0, -4, 1, 7, 4, 0}, 12}, {3, []int{0, 0, -5, 1, 1, -5, 8, 8, -5}, 15}, {4, []int{8, 8, 8, 8, 0, 0, 0, 0, 0, 0, 0, 0, 0, 0, 0, 0}, 8},
		{4, []int{0, 0, 0, 1, 0, 0, 0, -2, 3, 3, 3, 3, 0, 0, 0, -4}, 10}, {4, []int{5, 1, 1, 1, 5, 1, 1, 1, 5, 1, 1, 1, -5, 1, 1, 1}, 20},
	}
	for _, row := range rows {
		for _, e := range []int{0, -3, 100, -impl.MaxE} {
			got, ok := impl.MatNorm(matInts(row.n, e, row.list...))
			sameDyTold(t, fmt.Sprint("MatNorm ", row, e), got, ok, big.NewInt(int64(row.norm)), e)
		}
	}
}

func TestMatPow(t *testing.T) {
	mat := must[impl.Mat](t)
	source := rand.New(rand.NewSource(92))
	for i := range 40 {
		n := 1 + i%impl.MaxN
		a := smallMat(source, n)
		if i%3 == 0 {
			a = someMat(source, n, 1, 10)
		}
		was := mat(impl.MatPow(a, 0))
		mustEq(t, "the power of 0", was, diagonal(n, dyInt(1, 0)))
		for k := 1; k <= 30; k++ {
			power := mat(impl.MatPow(a, k))
			mustEq(t, "powers go on behind", power, mat(impl.MatMul(was, a)))
			mustEq(t, "powers go on ahead", power, mat(impl.MatMul(a, was)))
			was = power
		}
		mustEq(t, "the power of 1", mat(impl.MatPow(a, 1)), a)
		mustEq(t, "the power of 30", was, mat(impl.MatPow(mat(impl.MatPow(a, 5)), 6)))
	}
}

func TestMatPowLiterals(t *testing.T) {
	mat := must[impl.Mat](t)
	for n := 1; n <= impl.MaxN; n++ {
		one := diagonal(n, dyInt(1, 0))
		mustEq(t, "nought to the power of 0", mat(impl.MatPow(noughts(n), 0)), one)
		for _, k := range []int{1, 2, 30} {
			mustEq(t, "nought", mat(impl.MatPow(noughts(n), k)), noughts(n))
			mustEq(t, "one", mat(impl.MatPow(one, k)), one)
			mustEq(t, "two", mat(impl.MatPow(diagonal(n, dyInt(2, 0)), k)), diagonal(n, dyInt(1, k)))
		}
	}
	// The numbers of Fibonacci.
	mustEq(t, "30", mat(impl.MatPow(matInts(2, 0, 1, 1, 1, 0), 30)), matInts(2, 0, 1346269, 832040, 832040, 514229))
	mustEq(t, "a shear", mat(impl.MatPow(matInts(2, 0, 1, 1, 0, 1), 29)), matInts(2, 0, 1, 29, 0, 1))
	for _, k := range []int{-1, 31, -2, 32, -30, 60, 1 << 32, -1 << 32, 1<<32 + 1, math.MaxInt, math.MinInt} {
		for _, m := range []impl.Mat{noughts(1), noughts(4), diagonal(2, dyInt(1, 0)), matInts(2, 0, 1, 2, 3, 4)} {
			got, ok := impl.MatPow(m, k)
			refusedMat(t, fmt.Sprint("MatPow ", k), got, ok)
		}
	}
}

func TestMatScale(t *testing.T) {
	factors := manyDys()
	for i, m := range ordinary(93, 40) {
		for _, d := range []impl.Dy{factors[(5*i)%len(factors)], factors[(7*i+3)%len(factors)], dyInt(-3, 1), m.A[0]} {
			var want []*big.Int
			for _, x := range m.A {
				want = append(want, new(big.Int).Mul(scaled(x), scaled(d)))
			}
			got, ok := impl.MatScale(m, d)
			sameMatTold(t, fmt.Sprintf("MatScale of %v by %v", m, d), got, ok, m.N, want, -2*impl.MaxE)
			for place, x := range m.A {
				if product, is := impl.DyMul(x, d); ok && (!is || !equalDys(product, got.A[place])) {
					t.Fatal(m, d, place)
				}
			}
		}
	}
}

func TestMatRound(t *testing.T) {
	source := rand.New(rand.NewSource(94))
	for _, m := range append(ordinary(95, 25), matOf(4, manyDys()[1:17]...), matOf(4, manyDys()[20:36]...)) {
		for _, low := range []int{-impl.MaxE, -impl.MaxE + 1, -20, -1, 0, 1, 2, source.Intn(60) - 30, impl.MaxE - 1, impl.MaxE} {
			for _, mode := range modes() {
				sameRoundedMat(t, m, low, mode)
			}
		}
	}
	a := matInts(2, -1, -3, 3, 5, -8)
	for mode, want := range [][]int{{-2, 2, 2, -4}, {-1, 1, 2, -4}, {-1, 2, 3, -4}, {-2, 1, 2, -4}, {-2, 2, 3, -4}} {
		got, ok := impl.MatRound(a, 0, mode)
		sameAsMat(t, fmt.Sprint("MatRound ", mode), got, ok, matInts(2, 0, want...))
	}
}

func sameRoundedMat(t *testing.T, m impl.Mat, low int, mode int) {
	t.Helper()
	var want []*big.Int
	all := true
	for _, x := range m.A {
		near, _ := wantRound(x, low, mode)
		want = append(want, near)
		_, _, ok := impl.DyRound(x, low, mode)
		all = all && ok
	}
	got, ok := impl.MatRound(m, low, mode)
	sameMatTold(t, fmt.Sprintf("MatRound of %v to 2^%d by %d", m, low, mode), got, ok, m.N, want, low)
	if ok != all {
		t.Fatal(m, low, mode)
	}
}
