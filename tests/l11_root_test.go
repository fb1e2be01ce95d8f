package tests

import (
	"fmt"
	"math/big"
	"math/rand"
	"slices"
	"testing"

	"loop.example/g00382/impl"
)

// residualTimes is the norm of x times x without a, times 2^(2 MaxE).
func residualTimes(a impl.Mat, x impl.Mat) *big.Int {
	square := timesBig(a.N, scaledMat(x), scaledMat(x))
	norm := new(big.Int)
	for j := range a.N {
		sum := new(big.Int)
		for i := range a.N {
			off := new(big.Int).Sub(square[i*a.N+j], new(big.Int).Lsh(scaled(a.A[i*a.N+j]), impl.MaxE))
			sum.Add(sum, off.Abs(off))
		}
		if sum.Cmp(norm) > 0 {
			norm = sum
		}
	}
	return norm
}

func sameResidual(t *testing.T, a impl.Mat, x impl.Mat) bool {
	t.Helper()
	got, ok := impl.Residual(a, x)
	sameDyTold(t, fmt.Sprintf("Residual of %v and %v", a, x), got, ok, residualTimes(a, x), -2*impl.MaxE)
	return ok
}

func TestResidual(t *testing.T) {
	number, mat := must[impl.Dy](t), must[impl.Mat](t)
	for _, pair := range pairs(1111, 30) {
		a, x := pair[0], pair[1]
		if !sameResidual(t, a, x) || !sameResidual(t, x, a) || !sameResidual(t, a, a) {
			t.Fatal("refused", a, x)
		}
		// Once more, by the functions for matrices.
		rest := mat(impl.MatSub(mat(impl.MatMul(x, x)), a))
		if !equalDys(number(impl.Residual(a, x)), number(impl.MatNorm(rest))) {
			t.Fatal(a, x)
		}
		got, ok := impl.Residual(mat(impl.MatMul(x, x)), x)
		sameDyTold(t, "Residual of a square", got, ok, new(big.Int), 0)
	}
	told := 0
	list := manyDys()
	source := rand.New(rand.NewSource(1112))
	for i := range 1200 {
		n := 1 + i%impl.MaxN
		a, x := noughts(n), noughts(n)
		for place := range n * n {
			if source.Intn(1+n) == 0 {
				a.A[place] = list[source.Intn(len(list))]
			}
			if source.Intn(1+n) == 0 {
				x.A[place] = list[source.Intn(len(list))]
			}
		}
		if sameResidual(t, a, x) {
			told++
		}
	}
	if told < 150 || told > 1050 {
		t.Fatal("of 1200 are told:", told)
	}
}

func TestResidualLiterals(t *testing.T) {
	rows := []struct {
		n, want int
		a, x    []int
	}{
		{1, 0, []int{4}, []int{2}}, {1, 0, []int{4}, []int{-2}}, {1, 5, []int{4}, []int{3}}, {1, 3, []int{4}, []int{1}}, {1, 13, []int{-4}, []int{3}}, {1, 7, []int{-7}, []int{0}}, {1, 0, []int{0}, []int{0}},
		// The square of 1 2, 3 4 is 7 10, 15 22: by columns, not by rows; and x times x, not number by number.
		{2, 0, []int{7, 10, 15, 22}, []int{1, 2, 3, 4}}, {2, 32, []int{0, 0, 0, 0}, []int{1, 2, 3, 4}}, {2, 3, []int{7, 12, 15, 21}, []int{1, 2, 3, 4}}, {2, 9, []int{3, 8, 10, 22}, []int{1, 2, 3, 4}},
		{2, 4, []int{8, 11, 12, 22}, []int{1, 2, 3, 4}}, {2, 6, []int{10, 10, 18, 22}, []int{1, 2, 3, 4}}, {2, 0, []int{0, 0, 0, 0}, []int{0, 5, 0, 0}},
		{3, 5, []int{1, -2, 0, 0, 1, -2, 0, 0, 1}, []int{1, 1, 0, 0, 1, 1, 0, 0, 1}},
	}
	for _, row := range rows {
		for _, e := range []int{0, -3, 40} {
			got, ok := impl.Residual(matInts(row.n, 2*e, row.a...), matInts(row.n, e, row.x...))
			sameDyTold(t, fmt.Sprint("Residual ", row, e), got, ok, big.NewInt(int64(row.want)), 2*e)
		}
	}
}

// rootWay is what a test's own way to a root came to.
type rootWay struct {
	x []*big.Int
	// noX, noZ say that X, or Z, has no inverse; untold that one has numbers that may not be told.
	noX, noZ, untold bool
}

func (w rootWay) ends() bool { return w.noX || w.noZ || w.untold }

// inverseTimes has the numbers of the inverse of a matrix times 2^e, as multiples of 2^e, and whether there is one.
func inverseTimes(n int, list []*big.Int, e int) ([]*big.Int, bool) {
	var rows [][]*big.Int
	for i := range n {
		row := slices.Clone(list[i*n : (i+1)*n])
		for j := range n {
			x := new(big.Int)
			if i == j {
				// One, divided by 2^e, and once more for the multiples.
				x = two(-2 * e)
			}
			row = append(row, x)
		}
		rows = append(rows, row)
	}
	if reduce(rows, n) < n {
		return nil, false
	}
	var near []*big.Int
	for i, row := range rows {
		for j := range n {
			x, _ := wantQuotient(row[n+j], row[i], impl.RdEven)
			near = append(near, x)
		}
	}
	return near, true
}

// halfOf is half of the sum of each two numbers, rounded.
func halfOf(a []*big.Int, b []*big.Int) []*big.Int {
	var list []*big.Int
	for i, x := range a {
		half, _ := wantQuotient(new(big.Int).Add(x, b[i]), big.NewInt(2), impl.RdEven)
		list = append(list, half)
	}
	return list
}

// wantRootWay goes the chapter's way, step by step, all in multiples of 2^(low-10), but for the last.
func wantRootWay(a impl.Mat, low int, steps int) rootWay {
	w := low - 10
	var x, z []*big.Int
	for place, d := range a.A {
		near, _ := wantRound(d, w, impl.RdEven)
		one := new(big.Int)
		if place%(a.N+1) == 0 {
			one = two(-w)
		}
		x, z = append(x, near), append(z, one)
	}
	untold := func(n *big.Int) bool { return !dyTellable(n, w) }
	for range steps {
		p, isP := inverseTimes(a.N, z, w)
		q, isQ := inverseTimes(a.N, x, w)
		way := rootWay{noX: !isQ, noZ: !isP, untold: slices.ContainsFunc(p, untold) || slices.ContainsFunc(q, untold)}
		if way.ends() {
			return way
		}
		x, z = halfOf(x, p), halfOf(z, q)
	}
	var list []*big.Int
	for _, n := range x {
		near, _ := wantQuotient(n, two(10), impl.RdEven)
		list = append(list, near)
	}
	return rootWay{x: list}
}

// sameRootMat holds RootMat against the chapter's steps, and says whether it answers, and how the way went.
func sameRootMat(t *testing.T, a impl.Mat, low int, steps int) (rootWay, bool) {
	t.Helper()
	got, far, ok := impl.RootMat(a, low, steps)
	name := fmt.Sprintf("RootMat of %v, %d, %d", a, low, steps)
	if !inReach(a, low) || steps < 0 || steps > 12 {
		refusedMat(t, name, got, ok)
		refusedDy(t, name, far, ok)
		return rootWay{}, false
	}
	way := wantRootWay(a, low, steps)
	told := !way.ends()
	if told {
		var list []impl.Dy
		for _, x := range way.x {
			list = append(list, dy(x, low))
		}
		told = !slices.ContainsFunc(way.x, func(x *big.Int) bool { return !dyTellable(x, low) }) && dyTellable(residualTimes(a, matOf(a.N, list...)), -2*impl.MaxE)
	}
	if ok != told {
		t.Fatal(name, ok, way)
	}
	if !ok {
		refusedMat(t, name, got, ok)
		refusedDy(t, name, far, ok)
		return way, false
	}
	sameMatTold(t, name, got, ok, a.N, way.x, low)
	sameDy(t, name+", how far", far, residualTimes(a, got), -2*impl.MaxE)
	true1, is := impl.Residual(a, got)
	if !is || !equalDys(true1, far) {
		t.Fatal(name, "comes with another Residual", far, true1)
	}
	return way, true
}

// rootMats has matrices that have roots of many kinds, and such that have none: then the steps go anywhere.
func rootMats(seed int64, many int) []impl.Mat {
	source := rand.New(rand.NewSource(seed))
	list := expMats(seed, many)
	for n := 1; n <= impl.MaxN; n++ {
		for i := range many {
			down := noughts(n)
			for k := range n {
				down.A[k*n+k] = someOneToFour(source)
			}
			triangle, some := down, towards(someMat(source, n, 1+i%3, 4), 0)
			for place := range n * n {
				if place%n > place/n {
					triangle = with(triangle, place, dyInt(source.Intn(9)-4, -source.Intn(3)))
				}
			}
			near := withNorm(towards(some, 2), dyInt(5, 0))
			for k := range n {
				near.A[k*n+k], _ = impl.DyAdd(near.A[k*n+k], dyInt(7, 0))
			}
			list = append(list, down, triangle, turned(triangle), near)
		}
	}
	return slices.DeleteFunc(list, func(m impl.Mat) bool { return !inReach(m, 0) })
}

// someOneToFour is a number from 1 to 4, whole or not.
func someOneToFour(source *rand.Rand) impl.Dy {
	bits := source.Intn(60)
	return dyInt(1<<bits+source.Intn(3<<bits+1), -bits)
}

func TestRootMat(t *testing.T) {
	answers, none := 0, 0
	for i, a := range rootMats(1113, 12) {
		for j, low := range expLows() {
			for steps := range 13 {
				if (i+3*j+steps)%11 != 0 {
					continue
				}
				if way, ok := sameRootMat(t, a, low, steps); ok {
					answers++
				} else if way.noX || way.noZ {
					none++
				}
			}
		}
	}
	if answers < 1500 || none < 100 {
		t.Fatal("few roots, or few that are none:", answers, none)
	}
}

// The promise: numbers from 1 to 4 on the way down and noughts else are told to within eight steps of the last bit.
func TestRootMatWithinEightSteps(t *testing.T) {
	source := rand.New(rand.NewSource(1114))
	for low := -47; low <= -8; low++ {
		for i := range 24 {
			n := 1 + i%impl.MaxN
			a := noughts(n)
			for k := range n {
				a.A[k*n+k] = someOneToFour(source)
				if i < 12 {
					a.A[k*n+k] = dyInt(1+(i+k)%4, 0)
				}
			}
			if _, ok := sameRootMat(t, a, low, 10); !ok {
				t.Fatal("refused", a, low)
			}
			x, far, _ := impl.RootMat(a, low, 10)
			if impl.DyCmp(far, dyInt(8, low)) > 0 {
				t.Fatal("farther off", a, low, far)
			}
			for place, d := range x.A {
				near := new(big.Int)
				if place%(n+1) == 0 {
					near = wantRoot(a.A[place], low, impl.RdEven)
				}
				off := near.Sub(near, stepsOf(scaled(d), two(impl.MaxE), low, impl.RdDown))
				if off.CmpAbs(big.NewInt(1)) > 0 {
					t.Fatal("not near the true root", a, low, d)
				}
			}
		}
	}
}

// With all of 1 to 4 alone on the way down, by all steps, the root comes nearer.
func TestRootMatSteps(t *testing.T) {
	for n := 1; n <= impl.MaxN; n++ {
		for k := 1; k <= 4; k++ {
			for _, low := range []int{0, -8, -47, -120} {
				var last impl.Dy
				for steps := range 13 {
					_, far, ok := impl.RootMat(diagonal(n, dyInt(k, 0)), low, steps)
					if !ok || steps > 1 && impl.DyCmp(far, last) > 0 && impl.DyCmp(far, dyInt(8, low)) > 0 {
						t.Fatal(n, k, low, steps, far)
					}
					last = far
					sameRootMat(t, diagonal(n, dyInt(k, 0)), low, steps)
				}
			}
		}
	}
}

func TestRootMatLiterals(t *testing.T) {
	number := func(n int, e int) impl.Mat { return matInts(1, e, n) }
	rows := []struct {
		a          impl.Mat
		low, steps int
		x          impl.Mat
		far, farE  int
	}{
		{number(4, 0), -10, 8, number(2, 0), 0, 0}, {number(2, 0), -10, 10, number(1448, -10), 448, -20}, {number(1, 0), 0, 12, number(1, 0), 0, 0}, {number(1, 0), -120, 0, number(1, 0), 0, 0},
		{number(9, 0), 0, 0, number(9, 0), 72, 0}, {number(9, 0), 0, 1, number(5, 0), 16, 0}, {number(9, 0), 0, 2, number(3, 0), 0, 0},
		// 9 comes to 5, half of 9 and 1, and then to 3.4, half of 5 and 1.8.
		{number(9, 0), -3, 2, number(27, -3), 153, -6},
		// A half goes to 0, one and a half to 2; what is a little above a half is a half first, and then 0.
		{number(1, -1), 0, 0, number(0, 0), 1, -1}, {number(3, -1), 0, 0, number(2, 0), 5, -1}, {number(5, -1), 0, 0, number(2, 0), 3, -1}, {number(-1, -1), 0, 0, number(0, 0), 1, -1}, {number(-3, -1), 0, 0, number(-2, 0), 11, -1},
		{number(2049, -12), 0, 0, number(0, 0), 2049, -12}, {number(2050, -12), 0, 0, number(0, 0), 2050, -12}, {number(2051, -12), 0, 0, number(1, 0), 2045, -12}, {number(6143, -12), 0, 0, number(2, 0), 10241, -12},
		{number(-1, 0), 0, 0, number(-1, 0), 2, 0}, {number(-1, 0), 0, 1, number(0, 0), 1, 0},
		// The square of 1 1, 0 1 is 1 2, 0 1; that of 2 1, 1 2 is 5 4, 4 5.
		{matInts(2, 0, 1, 2, 0, 1), -8, 6, matInts(2, 0, 1, 1, 0, 1), 0, 0}, {matInts(2, 0, 1, 0, 2, 1), -8, 6, matInts(2, 0, 1, 0, 1, 1), 0, 0}, {matInts(2, 0, 5, 4, 4, 5), -20, 10, matInts(2, 0, 2, 1, 1, 2), 0, 0},
		{matInts(2, 0, 5, 4, 4, 5), 0, 0, matInts(2, 0, 5, 4, 4, 5), 72, 0}, {matInts(3, 0, 4, 0, 0, 0, 9, 0, 0, 0, 16), -30, 10, matInts(3, 0, 2, 0, 0, 0, 3, 0, 0, 0, 4), 0, 0},
		// A quarter turn is one of an eighth, twice: 724 times 2^-10 is near the root of a half.
		{matInts(2, 0, 0, -1, 1, 0), -10, 8, matInts(2, -10, 724, -724, 724, 724), 2 * (1<<19 - 724*724), -20},
	}
	for _, row := range rows {
		got, far, ok := impl.RootMat(row.a, row.low, row.steps)
		name := fmt.Sprint("RootMat ", row.a, row.low, row.steps)
		sameAsMat(t, name, got, ok, row.x)
		sameDyTold(t, name+", how far", far, ok, big.NewInt(int64(row.far)), row.farE)
		sameRootMat(t, row.a, row.low, row.steps)
	}
}
