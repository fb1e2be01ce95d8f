package tests

import (
	"fmt"
	"math/big"
	"math/rand"
	"slices"
	"testing"

	"loop.example/g00382/impl"
)

// solution has the true numbers of x as quotients of whole numbers, and whether there is one solution alone.
func solution(a impl.Mat, b []impl.Dy) ([][2]*big.Int, bool) {
	s := fineness(a.A, b)
	rows := rowsOf(a, s, wholes(b, s))
	if reduce(rows, a.N) < a.N {
		return nil, false
	}
	var list [][2]*big.Int
	for i, row := range rows {
		list = append(list, [2]*big.Int{row[a.N], row[i]})
	}
	return list, true
}

func refusedSolution(t *testing.T, name string, got []impl.Iv, ok bool) {
	t.Helper()
	if ok || len(got) != 0 {
		t.Fatal(name, got, ok)
	}
}

// sameSolved fails unless each interval has the next multiples of 2^low below and above the true number, where all may be told.
func sameSolved(t *testing.T, a impl.Mat, b []impl.Dy, low int) bool {
	t.Helper()
	name := fmt.Sprintf("Solve of %v and %v, %d", a, b, low)
	got, ok := impl.Solve(a, b, low)
	want, is := solution(a, b)
	if !is {
		refusedSolution(t, name, got, ok)
		return false
	}
	told := true
	var los, his []*big.Int
	for _, x := range want {
		lo, hi := stepsOf(x[0], x[1], low, impl.RdDown), stepsOf(x[0], x[1], low, impl.RdUp)
		told = told && dyTellable(lo, low) && dyTellable(hi, low)
		los, his = append(los, lo), append(his, hi)
	}
	if ok != told || ok && len(got) != a.N {
		t.Fatalf("%s: %v, %t", name, got, ok)
	}
	if !ok {
		refusedSolution(t, name, got, ok)
		return false
	}
	for i, v := range got {
		sameIvTold(t, fmt.Sprint(name, ", number ", i), v, true, los[i], his[i], low)
	}
	return true
}

// againstQuotient is -1, 0, 1: d is less than x[0] divided by x[1], the same, greater.
func againstQuotient(d impl.Dy, x [2]*big.Int) int {
	return new(big.Rat).Sub(ratOf(d), new(big.Rat).SetFrac(x[0], x[1])).Sign()
}

// holdsSolution asks by the document's words: the ends are multiples, the true number is in, no narrower interval has it, and put in they hold b.
func holdsSolution(t *testing.T, a impl.Mat, b []impl.Dy, low int) {
	t.Helper()
	got, ok := impl.Solve(a, b, low)
	want, is := solution(a, b)
	if !ok || !is || len(got) != a.N {
		t.Fatal("refused", a, b, low)
	}
	for i, v := range got {
		for _, end := range []impl.Dy{v.Lo, v.Hi} {
			if _, exact, _ := impl.DyRound(end, low, impl.RdEven); !exact {
				t.Fatal("no multiple", a, b, low, v)
			}
		}
		if !impl.IvOk(v) || againstQuotient(v.Lo, want[i]) > 0 || againstQuotient(v.Hi, want[i]) < 0 {
			t.Fatal("the true number is not in", a, b, low, v)
		}
		for _, less := range narrowed(v, low) {
			if againstQuotient(less.Lo, want[i]) <= 0 && againstQuotient(less.Hi, want[i]) >= 0 {
				t.Fatal("a narrower one has it", a, b, low, v)
			}
		}
		if (againstQuotient(v.Lo, want[i]) == 0 || againstQuotient(v.Hi, want[i]) == 0) && !equalDys(v.Lo, v.Hi) {
			t.Fatal("an exact multiple is alone", a, b, low, v)
		}
	}
	holdsRight(t, a, b, got)
}

func holdsRight(t *testing.T, a impl.Mat, b []impl.Dy, x []impl.Iv) {
	t.Helper()
	for i, d := range b {
		sum := impl.Iv{}
		for j, v := range x {
			factor := a.A[i*a.N+j]
			product, ok := impl.IvMul(alone(factor), v)
			if !ok {
				t.Fatal("a product is refused", a, b)
			}
			if sum, ok = impl.IvAdd(sum, product); !ok {
				t.Fatal("a sum is refused", a, b)
			}
		}
		if !impl.IvHas(sum, d) {
			t.Fatal("put in, they do not hold", a, b, i)
		}
	}
}

func someList(source *rand.Rand, n int, limbs int, far int) []impl.Dy {
	return someMat(source, n, limbs, far).A[:n]
}

func TestSolve(t *testing.T) {
	source := rand.New(rand.NewSource(931))
	for i, m := range manyMats(932, 16) {
		b := someList(source, m.N, 1+i%4, 1+i%40)
		for _, low := range append(fineLows(), source.Intn(401)-200) {
			_, is := solution(m, b)
			if sameSolved(t, m, b, low) != is {
				t.Fatal("Solve", m, b, low)
			}
			if is {
				holdsSolution(t, m, b, low)
			}
		}
	}
}

func TestSolveFarOnes(t *testing.T) {
	source := rand.New(rand.NewSource(933))
	numbers := manyDys()
	told := 0
	for i, m := range farMats(934, 500) {
		var b []impl.Dy
		for range m.N {
			b = append(b, numbers[source.Intn(len(numbers))])
		}
		if sameSolved(t, m, b, fineLows()[i%len(fineLows())]) {
			told++
		}
		sameSolved(t, m, make([]impl.Dy, m.N), 0)
	}
	if told < 20 || told > 400 {
		t.Fatal("of 500 solutions are told:", told)
	}
}

// Where x has multiples of 2^low, each interval is one number alone; where they are off by half a step, none is.
func TestSolveExactMultiples(t *testing.T) {
	source := rand.New(rand.NewSource(935))
	mat := must[impl.Mat](t)
	for _, r := range allRanks(936, 8, 9) {
		if r.rank < r.m.N {
			continue
		}
		n := r.m.N
		for _, low := range []int{-200, -3, 0, 5, 200} {
			for _, off := range []int{0, 1} {
				x := noughts(n)
				for i := range n {
					x.A[i*n] = dyInt(2*(source.Intn(2001)-1000)+off, low-1)
				}
				product := mat(impl.MatMul(r.m, x))
				var b []impl.Dy
				for i := range n {
					b = append(b, product.A[i*n])
				}
				got, ok := impl.Solve(r.m, b, low)
				if !ok {
					t.Fatal("refused", r.m, b, low)
				}
				for i, v := range got {
					if off == 0 {
						sameAsIv(t, "a multiple", v, true, alone(x.A[i*n]))
						continue
					}
					half := dyInt(1, low-1)
					lo, _ := impl.DySub(x.A[i*n], half)
					hi, _ := impl.DyAdd(x.A[i*n], half)
					sameAsIv(t, "half a step off", v, true, impl.Iv{Lo: lo, Hi: hi})
				}
			}
		}
	}
}

func TestSolveLiterals(t *testing.T) {
	rows := []struct {
		n, low  int
		a, b    []int
		lo, hi  []int
		refused bool
	}{
		{1, 0, []int{3}, []int{1}, []int{0}, []int{1}, false}, {1, 0, []int{3}, []int{-1}, []int{-1}, []int{0}, false}, {1, 0, []int{-3}, []int{7}, []int{-3}, []int{-2}, false}, {1, -2, []int{3}, []int{1}, []int{1}, []int{2}, false},
		{1, 1, []int{3}, []int{10}, []int{1}, []int{2}, false}, {1, 0, []int{3}, []int{6}, []int{2}, []int{2}, false}, {1, 0, []int{3}, []int{0}, []int{0}, []int{0}, false}, {1, 0, []int{0}, []int{0}, nil, nil, true}, {1, 0, []int{0}, []int{1}, nil, nil, true},
		{2, -1, []int{2, 0, 0, 4}, []int{3, 1}, []int{3, 0}, []int{3, 1}, false}, {2, 0, []int{1, 2, 3, 4}, []int{5, 6}, []int{-4, 4}, []int{-4, 5}, false}, {2, -1, []int{1, 2, 3, 4}, []int{5, 6}, []int{-8, 9}, []int{-8, 9}, false},
		{2, 0, []int{1, 2, 2, 4}, []int{1, 2}, nil, nil, true}, {2, 0, []int{1, 2, 2, 4}, []int{0, 0}, nil, nil, true}, {2, 0, []int{0, 1, 1, 0}, []int{7, 9}, []int{9, 7}, []int{9, 7}, false},
		{3, 0, []int{2, 0, 1, 1, 3, 0, 0, 1, 1}, []int{1, 0, 0}, []int{0, -1, 0}, []int{1, 0, 1}, false}, {3, -3, []int{2, 0, 1, 1, 3, 0, 0, 1, 1}, []int{1, 0, 0}, []int{3, -2, 1}, []int{4, -1, 2}, false},
		{4, 0, []int{1, 0, 0, 0, 1, 1, 0, 0, 1, 1, 1, 0, 1, 1, 1, 1}, []int{1, 2, 3, 4}, []int{1, 1, 1, 1}, []int{1, 1, 1, 1}, false}, {4, 200, []int{1, 0, 0, 0, 1, 1, 0, 0, 1, 1, 1, 0, 1, 1, 1, 1}, []int{0, -1, 0, 1}, []int{0, -1, 0, 0}, []int{0, 0, 1, 1}, false},
	}
	for _, row := range rows {
		got, ok := impl.Solve(matInts(row.n, 0, row.a...), matInts(0, 0, row.b...).A, row.low)
		if row.refused {
			refusedSolution(t, fmt.Sprint("Solve ", row), got, ok)
			continue
		}
		if !ok || len(got) != row.n {
			t.Fatal("Solve", row, got, ok)
		}
		for i, v := range got {
			sameAsIv(t, fmt.Sprint("Solve ", row, ", number ", i), v, ok, ivInt(row.lo[i], row.hi[i], row.low))
		}
	}
}

// oneRow has x in one row, and ones so that each row and column has one number; k is how far these lie off the way down.
func oneRow(n int, row int, k int, x impl.Dy) impl.Mat {
	m := noughts(n)
	for i := range n {
		m.A[i*n+(i+k)%n] = dyInt(1, 0)
	}
	m.A[row*n+(row+k)%n] = x
	return m
}

func TestSolveThatMayNotBeToldInOneNumber(t *testing.T) {
	power := func(e int) impl.Dy { return dyInt(1, e) }
	most, three := dy(mostNat(), 0), dyInt(3, 0)
	rows := []struct {
		a, b impl.Dy
		low  int
		ok   bool
	}{
		{power(-3000), power(0), 0, true}, {power(-3000), power(1), 0, false}, {power(-3000), power(0), -200, true}, {power(-3000), power(0), 200, true}, {power(-3000), power(1), 200, false}, {power(-3000), three, 0, true},
		{power(-3000), dy(mostNat(), 0), 7, true}, {power(-3000), dy(mostNat(), 1), 7, false}, {power(-1500), power(1500), 0, true}, {power(-1500), power(1501), 0, false}, {dyInt(-1, -1500), power(1500), -200, true},
		{three, power(1601), 0, true}, {three, power(1602), 0, false}, {three, power(1602), 1, true}, {three, power(1603), 1, false}, {three, power(1801), 200, true}, {three, power(1802), 200, false}, {three, power(1401), -200, true}, {three, power(1402), -200, false},
		{three, power(3000), 0, false}, {three, power(-3000), 0, true}, {three, power(0), 200, true}, {power(3000), power(0), -200, true}, {power(3000), power(-3000), -200, true}, {power(3000), most, 200, true},
		{most, power(0), 0, true}, {power(0), most, 0, true}, {power(0), most, -200, true}, {power(0), most, 1, true}, {power(0), dy(mostNat(), 3000), 0, true}, {power(0), dy(mostNat(), -3000), 0, true}, {power(1), dy(mostNat(), -200), -200, true},
		{power(0), dy(mostNat(), -201), -200, true}, {most, dy(mostNat(), 3000), 0, true}, {power(0), dy(mostNat(), -1), -1, true}, {impl.Dy{}, power(0), 0, false}, {impl.Dy{}, impl.Dy{}, 0, false}, {power(-3000), impl.Dy{}, 0, true},
	}
	for _, row := range rows {
		for n := 1; n <= impl.MaxN; n++ {
			for place := range n * n {
				b := slices.Repeat([]impl.Dy{power(0)}, n)
				for _, d := range []impl.Dy{row.b, impl.DyNeg(row.b)} {
					b[place/n] = d
					if ok := sameSolved(t, oneRow(n, place/n, place%n, row.a), b, row.low); ok != row.ok {
						t.Fatal("Solve", row, n, place, ok)
					}
				}
			}
		}
	}
	// Of these, one end alone may not be told, whichever it is.
	for _, sign := range []int{1, -1} {
		b := dyInt(sign, 1602)
		lo, hi := wantDiv(b, three, 0, impl.RdDown), wantDiv(b, three, 0, impl.RdUp)
		if dyTellable(lo, 0) == dyTellable(hi, 0) {
			t.Fatal("both ends are alike")
		}
	}
}

// farDets has matrices with numbers on the way to their inverses that may not be told: most of their determinants, adjugates, products.
func farDets() []impl.Mat {
	power := func(e int) impl.Dy { return dyInt(1, e) }
	return []impl.Mat{
		diagonal(2, power(3000)), diagonal(3, power(3000)), diagonal(4, power(3000)), diagonal(2, power(-3000)), diagonal(4, power(-3000)), with(diagonal(4, power(-3000)), 0, power(-2999)),
		matOf(2, impl.Dy{}, power(-3000), dyInt(-1, -2000), impl.Dy{}), matOf(2, dy(plus(two(1500), 1), 0), power(3000), power(0), dy(plus(two(1500), -1), 0)),
		matOf(2, power(-1500), power(-1500), power(-1500), dyInt(3, -1500)), ring(4, []int{0, 2, 1, 3}, []impl.Dy{power(-2500), power(-2600), power(-2700), power(3000)}),
		with(with(diagonal(4, power(2000)), 1, power(1999)), 2, dyInt(-5, 2000)), matOf(2, dy(mostNat(), 0), dy(plus(mostNat(), -2), 0), dy(mostNat(), 0), dy(mostNat(), 0)),
	}
}

func TestSolveOnTheWay(t *testing.T) {
	power := func(e int) impl.Dy { return dyInt(1, e) }
	refused := 0
	for _, m := range farDets() {
		if _, ok := impl.MatDet(m); !ok {
			refused++
		}
		one := slices.Repeat([]impl.Dy{power(0)}, m.N)
		sameSolved(t, m, one, 0)
		for _, low := range []int{-200, 0, 200} {
			// Of nought the solution is nought, and of a column of m it is a column of one.
			if !sameSolved(t, m, make([]impl.Dy, m.N), low) {
				t.Fatal("refused", m)
			}
			for j := range m.N {
				var column []impl.Dy
				for i := range m.N {
					column = append(column, m.A[i*m.N+j])
				}
				if !sameSolved(t, m, column, low) {
					t.Fatal("refused", m, column)
				}
			}
		}
	}
	if refused < 8 {
		t.Fatal("few determinants may not be told:", refused)
	}
}

// A determinant that is 0 is refused, one that is not by the least is none of that.
func TestSolveAndInverseNextToNoSolution(t *testing.T) {
	power := func(e int) impl.Dy { return dyInt(1, e) }
	off := func(e int) impl.Dy { return dy(plus(two(-e), 1), e) }
	most, less := dy(mostNat(), 0), dy(plus(mostNat(), -2), 0)
	rows := []struct {
		none, one impl.Mat
	}{
		{matOf(1, impl.Dy{}), matOf(1, power(-3000))}, {ones(2), with(ones(2), 3, off(-1599))}, {ones(2), with(ones(2), 1, off(-1599))}, {matOf(2, most, less, most, less), matOf(2, most, less, most, most)},
		{noughts(2), diagonal(2, power(-3000))}, {matOf(2, power(3000), power(0), power(0), power(-3000)), matOf(2, power(3000), power(0), power(0), dyInt(3, -3000))},
		{matInts(3, 0, 1, 2, 3, 4, 5, 6, 7, 8, 9), with(matInts(3, 0, 1, 2, 3, 4, 5, 6, 7, 8, 9), 0, off(-1000))}, {with(diagonal(4, power(0)), 10, impl.Dy{}), with(diagonal(4, power(0)), 10, power(-3000))},
		{matInts(4, 0, 1, 2, 3, 4, 5, 6, 7, 8, 2, 4, 6, 8, 0, 0, 0, 1), with(matInts(4, 0, 1, 2, 3, 4, 5, 6, 7, 8, 2, 4, 6, 8, 0, 0, 0, 1), 8, dy(plus(two(500), 1), -499))},
	}
	for _, row := range rows {
		for _, low := range []int{-200, -1, 0, 200} {
			b := slices.Repeat([]impl.Dy{power(0)}, row.none.N)
			for _, list := range [][]impl.Dy{b, make([]impl.Dy, row.none.N), row.none.A[:row.none.N]} {
				got, ok := impl.Solve(row.none, list, low)
				refusedSolution(t, "no solution", got, ok)
			}
			x, far, ok := impl.Inverse(row.none, low)
			refusedMat(t, "no inverse", x, ok)
			refusedDy(t, "no inverse", far, ok)
			if !sameSolved(t, row.one, make([]impl.Dy, row.one.N), low) {
				t.Fatal("refused", row.one)
			}
			sameSolved(t, row.one, b, low)
			sameInverse(t, row.one, low)
		}
		det, ok := impl.MatDet(row.none)
		sameDyTold(t, "none", det, ok, new(big.Int), 0)
		sameRank(t, row.one, row.one.N)
	}
}

// wantInverse has the numbers of the inverse, as multiples of 2^low, the distance and its power of two.
func wantInverse(a impl.Mat, low int) ([]*big.Int, *big.Int, int, bool) {
	s := fineness(a.A)
	n := a.N
	one := diagonal(n, dyInt(1, 0))
	var columns [][]*big.Int
	for j := range n {
		var column []*big.Int
		for i := range n {
			column = append(column, wholes(one.A, s)[i*n+j])
		}
		columns = append(columns, column)
	}
	rows := rowsOf(a, s, columns...)
	if reduce(rows, n) < n {
		return nil, nil, 0, false
	}
	var near []*big.Int
	for i, row := range rows {
		for j := range n {
			near = append(near, stepsOf(row[n+j], row[i], low, impl.RdEven))
		}
	}
	// All is written with one power of two, whichever sign low has.
	e := min(low, 0) - s
	greatest := new(big.Int)
	product := timesBig(n, wholes(a.A, s), near)
	for j := range n {
		sum := new(big.Int)
		for i := range n {
			x := new(big.Int).Lsh(product[i*n+j], uint(low-s-e))
			if i == j {
				x.Sub(x, two(-e))
			}
			sum.Add(sum, x.Abs(x))
		}
		if sum.Cmp(greatest) > 0 {
			greatest = sum
		}
	}
	return near, greatest, e, true
}

// sameInverse says whether the numbers may be told, and whether the distance may be; both must, else all is refused.
func sameInverse(t *testing.T, a impl.Mat, low int) (bool, bool) {
	t.Helper()
	name := fmt.Sprintf("Inverse of %v, %d", a, low)
	got, far, ok := impl.Inverse(a, low)
	near, distance, e, is := wantInverse(a, low)
	if !is {
		refusedMat(t, name, got, ok)
		refusedDy(t, name, far, ok)
		return false, false
	}
	numbers := !slices.ContainsFunc(near, func(x *big.Int) bool { return !dyTellable(x, low) })
	told := dyTellable(distance, e)
	if ok != (numbers && told) {
		t.Fatalf("%s: %t", name, ok)
	}
	if !ok {
		refusedMat(t, name, got, ok)
		refusedDy(t, name, far, ok)
		return numbers, told
	}
	sameMatTold(t, name, got, ok, a.N, near, low)
	sameDy(t, name+", the distance", far, distance, e)
	notFar(t, name, a, low, far)
	return numbers, told
}

// notFar asks for the promise: N times the norm times 2^low is as far as it may be.
func notFar(t *testing.T, name string, a impl.Mat, low int, far impl.Dy) {
	t.Helper()
	s := fineness(a.A)
	list := wholes(a.A, s)
	norm := new(big.Int)
	for j := range a.N {
		sum := new(big.Int)
		for i := range a.N {
			sum.Add(sum, new(big.Int).Abs(list[i*a.N+j]))
		}
		if sum.Cmp(norm) > 0 {
			norm = sum
		}
	}
	most := new(big.Rat).SetFrac(norm.Mul(norm, big.NewInt(int64(a.N))), two(s))
	step := new(big.Rat).SetInt(two(max(low, 0)))
	step.Quo(step, new(big.Rat).SetInt(two(max(-low, 0))))
	if ratOf(far).Cmp(most.Mul(most, step)) > 0 {
		t.Fatal(name, "is too far off", far)
	}
}

func TestInverse(t *testing.T) {
	source := rand.New(rand.NewSource(937))
	mat, number := must[impl.Mat](t), must[impl.Dy](t)
	for _, m := range manyMats(938, 14) {
		for _, low := range append(fineLows(), source.Intn(401)-200) {
			numbers, distance := sameInverse(t, m, low)
			if numbers != (rankByRows(m) == m.N) || numbers != distance {
				t.Fatal("Inverse", m, low)
			}
			if !numbers {
				continue
			}
			// The distance once more, by the functions for matrices.
			x, far, _ := impl.Inverse(m, low)
			rest := mat(impl.MatSub(mat(impl.MatMul(m, x)), mat(impl.MatId(m.N))))
			if !equalDys(number(impl.MatNorm(rest)), far) {
				t.Fatal("the distance", m, low, far)
			}
			mustEq(t, "multiples", mat(impl.MatRound(x, low, impl.RdDown)), x)
		}
	}
}

func TestInverseOfFarOnes(t *testing.T) {
	told, close := 0, 0
	for i, m := range farMats(939, 600) {
		numbers, distance := sameInverse(t, m, fineLows()[i%len(fineLows())])
		if numbers && distance {
			told++
		}
		if numbers && !distance {
			close++
		}
	}
	if told < 50 || told > 500 || close == 0 {
		t.Fatal("of 600 inverses are told:", told, "and not for the distance:", close)
	}
	for _, m := range farDets() {
		for _, low := range fineLows() {
			sameInverse(t, m, low)
		}
	}
}

func TestInverseLiterals(t *testing.T) {
	rows := []struct {
		n, low  int
		a, want []int
		far     impl.Dy
	}{
		{1, 0, []int{1}, []int{1}, impl.Dy{}}, {1, 0, []int{3}, []int{0}, dyInt(1, 0)}, {1, -2, []int{3}, []int{1}, dyInt(1, -2)}, {1, -1, []int{3}, []int{1}, dyInt(1, -1)}, {1, -1, []int{-3}, []int{-1}, dyInt(1, -1)},
		{1, 0, []int{2}, []int{0}, dyInt(1, 0)}, {1, -1, []int{2}, []int{1}, impl.Dy{}}, {1, 200, []int{1}, []int{0}, dyInt(1, 0)}, {1, -20, []int{-1 << 20}, []int{-1}, impl.Dy{}},
		{2, -2, []int{2, 0, 0, 4}, []int{2, 0, 0, 1}, impl.Dy{}}, {2, -1, []int{1, 2, 3, 4}, []int{-4, 2, 3, -1}, impl.Dy{}}, {2, 0, []int{1, 2, 3, 4}, []int{-2, 1, 2, 0}, dyInt(3, 0)},
		{2, 0, []int{0, 1, 1, 0}, []int{0, 1, 1, 0}, impl.Dy{}}, {3, 0, []int{1, 2, 3, 0, 1, 4, 5, 6, 0}, []int{-24, 18, 5, 20, -15, -4, -5, 4, 1}, impl.Dy{}},
		{4, 0, []int{1, 0, 0, 0, 1, 1, 0, 0, 1, 1, 1, 0, 1, 1, 1, 1}, []int{1, 0, 0, 0, -1, 1, 0, 0, 0, -1, 1, 0, 0, 0, -1, 1}, impl.Dy{}},
	}
	for _, row := range rows {
		a := matInts(row.n, 0, row.a...)
		got, far, ok := impl.Inverse(a, row.low)
		sameAsMat(t, fmt.Sprint("Inverse ", row), got, ok, matInts(row.n, row.low, row.want...))
		sameDy(t, fmt.Sprint("Inverse ", row, ", the distance"), far, scaled(row.far), -impl.MaxE)
		sameInverse(t, a, row.low)
	}
}

// A number in the middle of two multiples becomes the even one, wherever it stands.
func TestInverseTies(t *testing.T) {
	for n := 2; n <= impl.MaxN; n++ {
		for i := range n {
			for j := range n {
				if i == j {
					continue
				}
				for k := -9; k <= 9; k += 2 {
					for _, low := range []int{-200, -5, 0} {
						// The inverse has the opposite of that number in its place.
						a := with(diagonal(n, dyInt(1, 0)), i*n+j, dyInt(-k, low-1))
						even := (k - 1) / 2
						if k < 0 {
							even = (k+1)/2 - 1
						}
						if even%2 != 0 {
							even++
						}
						got, far, ok := impl.Inverse(a, low)
						sameAsMat(t, fmt.Sprint("Inverse ", k, low), got, ok, with(diagonal(n, dyInt(1, 0)), i*n+j, dyInt(even, low)))
						sameDy(t, "half a step", far, big.NewInt(1), low-1)
						sameInverse(t, a, low)
					}
				}
			}
		}
	}
}

func TestInverseThatMayNotBeToldInOneNumber(t *testing.T) {
	power := func(e int) impl.Dy { return dyInt(1, e) }
	rows := []struct {
		a   impl.Dy
		low int
		ok  bool
	}{
		{power(-3000), 0, true}, {power(-3000), -200, true}, {power(-3000), 200, true}, {dyInt(3, -3000), 0, false}, {dyInt(3, -3000), 200, false}, {dyInt(3, -1601), 0, true}, {dyInt(3, -1602), 0, false}, {dyInt(3, -1602), 1, true},
		{dyInt(3, -1603), 1, false}, {dyInt(3, -1603), 0, false}, {dyInt(3, -1401), -200, true}, {dyInt(3, -1402), -200, false}, {dyInt(3, -1801), 200, true}, {dyInt(3, -1802), 200, false}, {power(3000), -200, true}, {dy(mostNat(), 3000), 0, true}, {dy(mostNat(), 0), -200, true},
	}
	for _, row := range rows {
		for n := 1; n <= impl.MaxN; n++ {
			for place := range n * n {
				for _, d := range []impl.Dy{row.a, impl.DyNeg(row.a)} {
					numbers, distance := sameInverse(t, oneRow(n, place/n, place%n, d), row.low)
					if numbers != row.ok || numbers && !distance {
						t.Fatal("Inverse", row, n, place, numbers, distance)
					}
				}
			}
		}
	}
	// A number beyond MaxE on the upper side, in one place alone.
	for n := 2; n <= impl.MaxN; n++ {
		for _, e := range []int{1500, 1501} {
			a := with(with(diagonal(n, power(0)), n*n-1, power(-1500)), n-1, power(e))
			numbers, distance := sameInverse(t, a, 0)
			if numbers != (e == 1500) || !distance {
				t.Fatal("Inverse", n, e, numbers, distance)
			}
		}
	}
}

// The numbers may be told in all of these; the distance in some.
func TestInverseWhoseDistanceMayNotBeTold(t *testing.T) {
	power := func(e int) impl.Dy { return dyInt(1, e) }
	column := func(n int, list ...impl.Dy) impl.Mat {
		m := diagonal(n, power(0))
		for i, d := range list {
			m.A[(i+1)*n] = d
		}
		return m
	}
	// Its inverse is near a third of a power of two, and so rounded to an odd multiple.
	long := func(e int) impl.Mat { return matOf(1, dy(plus(new(big.Int).Mul(two(1598), big.NewInt(3)), 1), e)) }
	rows := []struct {
		name string
		a    impl.Mat
		low  int
		ok   bool
	}{
		{"1600 bits", column(3, power(-400), power(-1999)), -200, true}, {"1601 bits", column(3, power(-400), power(-2000)), -200, false}, {"1600 bits of three", column(4, power(-400), dyInt(-1, -1999), power(-900)), -200, true},
		{"1601 bits of three", column(4, power(-400), power(-900), dyInt(-1, -2000)), -200, false}, {"1600 bits down to -MaxE", column(3, power(-3000), power(-1401)), -200, true}, {"1601 bits down to -MaxE", column(3, power(-3000), power(-1400)), -200, false},
		{"2^3000", matOf(2, power(-2), impl.Dy{}, dyInt(-1, 2998), power(3000)), 1, true}, {"2^3001", matOf(2, power(-2), impl.Dy{}, dyInt(-1, 2999), power(3000)), 2, false}, {"2^3001, rounded well", matOf(2, power(-2), impl.Dy{}, dyInt(-1, 2999), power(3000)), 1, true},
		{"the least column may be any", with(column(4, power(-300), power(-2000)), 15, dyInt(3, 0)), -200, true}, {"the greatest one may not", with(column(4, power(-300), power(-2000)), 15, power(0)), -200, false},
		{"E of -3000, low of 0", long(-3000), 0, true}, {"E of -3001", long(-3000), -1, false}, {"E of -3000", long(-2999), -1, true}, {"E of -3198", long(-3000), -198, false},
		{"products that go out", matOf(2, dy(plus(two(1500), 1), 0), power(3000), power(0), dy(plus(two(1500), -1), 0)), -200, true},
		{"a number of 1901 bits in a lesser column", with(with(column(4, power(-300), power(-2000)), 9, power(200)), 15, dyInt(3, 190)), -200, true},
		{"a number of 1901 bits in the greatest column", with(column(4, power(-300), power(-2000)), 9, power(200)), -200, false},
		{"two such numbers whose sum has less", with(with(column(4, power(-300), power(-2000), dyInt(-1, -2000)), 9, power(200)), 13, power(200)), -200, true},
	}
	for _, row := range rows {
		for _, a := range []impl.Mat{row.a, opposites(row.a)} {
			numbers, distance := sameInverse(t, a, row.low)
			if !numbers || distance != row.ok {
				t.Fatal(row.name, numbers, distance)
			}
		}
	}
}

func TestSolveAndInverseLows(t *testing.T) {
	for n := 1; n <= impl.MaxN; n++ {
		for _, a := range []impl.Mat{diagonal(n, dyInt(1, 0)), diagonal(n, dyInt(-3, 5)), noughts(n)} {
			b := slices.Repeat([]impl.Dy{dyInt(1, 0)}, n)
			for _, low := range badLows() {
				got, ok := impl.Solve(a, b, low)
				refusedSolution(t, fmt.Sprint("Solve ", low), got, ok)
				x, far, ok := impl.Inverse(a, low)
				refusedMat(t, fmt.Sprint("Inverse ", low), x, ok)
				refusedDy(t, fmt.Sprint("Inverse ", low), far, ok)
			}
			for low := -200; low <= 200; low++ {
				isOne := rankByRows(a) == n
				numbers, distance := sameInverse(t, a, low)
				if sameSolved(t, a, b, low) != isOne || numbers != isOne || distance != isOne {
					t.Fatal(n, low)
				}
			}
		}
	}
}

func TestSolveLengths(t *testing.T) {
	for n := 1; n <= impl.MaxN; n++ {
		for _, a := range []impl.Mat{diagonal(n, dyInt(1, 0)), diagonal(n, dyInt(5, -1))} {
			for many := range 20 {
				for _, d := range []impl.Dy{{}, dyInt(3, 0)} {
					b := matOf(0, slices.Repeat([]impl.Dy{d}, many)...).A
					if many == n {
						if !sameSolved(t, a, b, 0) {
							t.Fatal("refused", n)
						}
						continue
					}
					got, ok := impl.Solve(a, b, 0)
					refusedSolution(t, fmt.Sprint("Solve ", n, many), got, ok)
				}
			}
			got, ok := impl.Solve(a, nil, 0)
			refusedSolution(t, "Solve of nil", got, ok)
		}
	}
}
