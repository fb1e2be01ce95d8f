package tests

import (
	"fmt"
	"math"
	"math/rand"
	"testing"

	"loop.example/g00382/impl"
)

// funcLows has numbers that are no low of this chapter.
func funcLows() []int {
	return []int{1, -121, 2, -122, 120, -200, 200, -3000, 1 << 32, -1 << 32, 1<<32 - 1, -1<<32 - 120, 1 << 62, math.MaxInt, math.MinInt, math.MinInt + 1}
}

// refusedByAll fails unless all functions of this chapter that take a matrix and low refuse them.
func refusedByAll(t *testing.T, a impl.Mat, low int) {
	t.Helper()
	name := fmt.Sprint(" of ", a, low)
	hold, ok := impl.ExpHold(a, low)
	refusedIvMat(t, "ExpHold"+name, hold, ok)
	x, far, ok := impl.ExpMat(a, low)
	refusedMat(t, "ExpMat"+name, x, ok)
	refusedDy(t, "ExpMat"+name, far, ok)
	for _, steps := range []int{0, 1, 12} {
		x, far, ok = impl.RootMat(a, low, steps)
		refusedMat(t, "RootMat"+name, x, ok)
		refusedDy(t, "RootMat"+name, far, ok)
	}
	if len(a.A) == 1 && a.N == 1 {
		v, ok := impl.ExpNum(a.A[0], low)
		refusedIv(t, "ExpNum"+name, v, ok)
	}
}

// takenByAll fails unless they answer, and just what the chapter's steps make.
func takenByAll(t *testing.T, a impl.Mat, low int) {
	t.Helper()
	_, ok := sameHold(t, a, low)
	_, _, is := sameNear(t, a, low)
	if !ok || !is {
		t.Fatal("refused", a, low)
	}
	// What is rounded alone has always a root, and may always be told; whether its Residual may, the way tells.
	sameRootMat(t, a, low, 0)
	sameRootMat(t, a, low, 3)
	if a.N == 1 {
		v, ok := impl.ExpNum(a.A[0], low)
		wantHold(a, low).same(t, "ExpNum", impl.IvMat{N: 1, A: []impl.Iv{v}}, ok)
	}
}

func TestFuncLows(t *testing.T) {
	for n := 1; n <= impl.MaxN; n++ {
		for _, a := range []impl.Mat{diagonal(n, dyInt(1, 0)), noughts(n), diagonal(n, dyInt(4, 0))} {
			for _, low := range funcLows() {
				refusedByAll(t, a, low)
			}
			for _, low := range []int{0, -120, -1, -119} {
				takenByAll(t, a, low)
			}
		}
	}
}

// lastNorms has matrices with a norm of just MostNorm, or less, and others whose norm is a little greater, in one column alone.
func lastNorms(n int, column int) ([]impl.Mat, []impl.Mat) {
	down := func(d impl.Dy) impl.Mat { return with(noughts(n), column*n+column, d) }
	near := dy(plus(two(1600), -1), -1594)
	far := dy(plus(two(1599), 1), -1593)
	last := []impl.Mat{down(dyInt(64, 0)), down(dyInt(-64, 0)), down(near), down(impl.DyNeg(near)), down(dyInt(63, 0))}
	more := []impl.Mat{down(dyInt(65, 0)), down(dyInt(-65, 0)), down(far), down(impl.DyNeg(far)), down(dyInt(1, 3000)), down(dyInt(-1, 7)), down(dyInt(129, -1)), down(dy(mostNat(), 3000))}
	if n == 1 {
		return last, more
	}
	other := (column + 1) % n
	add := func(m impl.Mat, d impl.Dy) impl.Mat { return with(m, other*n+column, d) }
	last = append(last, add(down(dyInt(32, 0)), dyInt(-32, 0)), add(down(dyInt(-1, 0)), dyInt(63, 0)), add(down(near), dyInt(1, -1594)), add(down(dyInt(1, -3000)), dyInt(63, 0)))
	// The first two of these may not be told as norms; the sizes of the third go out against each other where signs are taken.
	more = append(more, add(down(dyInt(64, 0)), dyInt(1, -3000)), add(down(dyInt(-1, -2000)), dyInt(-64, 0)), add(down(dyInt(40, 0)), dyInt(-40, 0)), add(down(near), dyInt(1, -1593)), add(down(dyInt(33, 0)), dyInt(32, 0)))
	return last, more
}

func TestFuncNorms(t *testing.T) {
	for n := 1; n <= impl.MaxN; n++ {
		for column := range n {
			last, more := lastNorms(n, column)
			for i, a := range last {
				takenByAll(t, a, -40*(i%4))
			}
			for i, a := range more {
				refusedByAll(t, a, -40*(i%4))
			}
		}
		// Rows may have greater sums, and so may all numbers together.
		row := noughts(n)
		for j := range n {
			row.A[j] = dyInt(60, 0)
		}
		takenByAll(t, row, -10)
		takenByAll(t, diagonal(n, dyInt(-64, 0)), -10)
		if n > 1 {
			refusedByAll(t, turned(row), -10)
		}
	}
}

// Norms that are just a power of two, and a little less and a little more, whether they may be told or not.
func TestFuncNormsAtAPowerOfTwo(t *testing.T) {
	source := rand.New(rand.NewSource(1121))
	for n := 1; n <= impl.MaxN; n++ {
		for top := -3; top <= 6; top++ {
			for i, off := range []impl.Dy{{}, dyInt(1, -60), dyInt(-1, -60), dyInt(1, -1500), dyInt(-1, -1500)} {
				norm, _ := impl.DyAdd(dyInt(1, top), off)
				if top == 6 && scaled(off).Sign() > 0 {
					continue
				}
				for j := range 3 {
					a := withNorm(towards(someMat(source, n, 1+j, 3), top-1), norm)
					if normTimes(a).Cmp(scaled(norm)) != 0 {
						t.Fatal("the test's own norm", a, norm)
					}
					takenByAll(t, a, []int{-3, -30, -61, -90, -113}[(i+j+n)%5])
				}
			}
		}
		one := diagonal(n, dyInt(1, -1))
		if n > 1 {
			takenByAll(t, with(one, n*n-2, dyInt(1, -3000)), -60)
			takenByAll(t, with(one, n*n-2, dyInt(-1, -2500)), -7)
		}
	}
}

// A norm of 2^top is halved once oftener than what is just below it, and reckoned with more bits: where numbers are great, the ends tell.
func TestExpHoldHalvings(t *testing.T) {
	for top := 4; top <= 6; top++ {
		for n := 1; n <= impl.MaxN; n++ {
			var widths []string
			for _, norm := range []impl.Dy{dy(plus(two(1500), -1), top-1500), dyInt(1, top)} {
				a := withNorm(noughts(n), norm)
				got, ok := sameHold(t, a, -9)
				if !ok {
					t.Fatal("refused", a)
				}
				wide, _ := impl.IvWide(got.A[0])
				widths = append(widths, fmt.Sprint(wide))
			}
			if widths[0] == widths[1] {
				t.Fatal(top, n, widths)
			}
		}
	}
}

// On the way there are numbers that may not be told: of long ones, of ones with far powers of two, and of both.
func TestExpHoldOnTheWay(t *testing.T) {
	most := mostNat()
	far := []impl.Dy{dyInt(1, -3000), dyInt(-1, -3000), dy(most, -3000), dy(minus(most), -2999), dy(most, -1600), dy(minus(most), -1599), dy(most, -1597), dy(plus(two(1599), 1), -1598), dy(plus(two(800), 1), -801), dyInt(3, -2000)}
	for n := 1; n <= impl.MaxN; n++ {
		for i, d := range far {
			whole := noughts(n)
			for place := range n * n {
				whole.A[place] = far[(i+3*place)%len(far)]
			}
			for place := range n * n {
				for j, a := range []impl.Mat{with(noughts(n), place, d), with(diagonal(n, dyInt(5, -1)), place, d), with(whole, place, dyInt(-7, 0))} {
					if (place+i+j)%n != 0 {
						continue
					}
					takenByAll(t, a, []int{0, -60, -120}[(i+j)%3])
				}
			}
			holdsTrue(t, "ExpHold", must[impl.IvMat](t)(impl.ExpHold(whole, -100)), trueExp(whole))
		}
	}
}

// residualRow has matrices of N 1, and whether what x times x has more than a may be told.
type residualRow struct {
	a, x impl.Dy
	ok   bool
}

func residualRows() []residualRow {
	most := dy(mostNat(), 0)
	return []residualRow{
		{impl.Dy{}, dyInt(1, 1500), true}, {impl.Dy{}, dyInt(-1, 1500), true}, {impl.Dy{}, dyInt(1, 1501), false}, {dyInt(1, 3000), dyInt(1, 1501), true}, {dyInt(-1, 3000), dyInt(1, 1500), false},
		{dyInt(-3, 3000), dyInt(1, 1501), true}, {dyInt(3, 3000), dyInt(1, 1500), false}, {impl.Dy{}, dyInt(1, -1500), true}, {impl.Dy{}, dyInt(1, -1501), false}, {dyInt(1, -3000), dyInt(1, -1501), false},
		{dyInt(1, -3000), dyInt(1, -1500), true}, {dyInt(2, -3000), dyInt(1, -1500), true}, {impl.Dy{}, dy(plus(two(800), 1), 0), false}, {dyInt(1, 0), dy(plus(two(800), 1), 0), true}, {dyInt(2, 0), dy(plus(two(800), 1), 0), false},
		{impl.Dy{}, dy(plus(two(800), -1), 0), true}, {most, impl.Dy{}, true}, {impl.DyNeg(most), impl.Dy{}, true}, {impl.DyNeg(most), dyInt(1, 0), true}, {impl.DyNeg(most), dyInt(1, 1), false}, {most, dyInt(1, 1), true},
		{dyInt(1, 0), dyInt(1, 800), true}, {dyInt(-1, 0), dyInt(1, 800), false}, {dyInt(-1, 0), dyInt(3, 799), false}, {dyInt(1, 1), dyInt(1, 800), true}, {dyInt(1, -1600), dyInt(1, 0), true}, {dyInt(-1, -1600), dyInt(1, 0), false},
		{dyInt(1, -3000), dyInt(1, 0), false}, {dyInt(1, 3000), dyInt(1, 0), false}, {dyInt(1, 3000), dyInt(1, 1500), true}, {dy(mostNat(), 3000), impl.Dy{}, true}, {dy(mostNat(), -3000), impl.Dy{}, true}, {impl.Dy{}, dyInt(1, -3000), false}, {impl.Dy{}, dyInt(1, 3000), false},
	}
}

func TestResidualThatMayNotBeTold(t *testing.T) {
	for _, row := range residualRows() {
		for n := 1; n <= impl.MaxN; n++ {
			for k := range n {
				a, x := with(noughts(n), k*n+k, row.a), with(noughts(n), k*n+k, row.x)
				if ok := sameResidual(t, a, x); ok != row.ok {
					t.Fatal(row, n, k, ok)
				}
			}
		}
	}
}

// Just the greatest sum of a column must be told: products, sums on the way and other columns may be any.
func TestResidualOnTheWay(t *testing.T) {
	d := func(n int, e int) impl.Dy { return dyInt(n, e) }
	list := func(numbers ...impl.Dy) []impl.Dy { return numbers }
	nought := impl.Dy{}
	rows := []struct {
		a, x []impl.Dy
		ok   bool
	}{
		// One column has two numbers, or two columns one each.
		{list(d(1, 3000), nought, d(1, 3000), nought), list(nought, nought, nought, nought), false}, {list(d(1, 3000), d(1, 3000), nought, nought), list(nought, nought, nought, nought), true},
		{list(d(1, 1600), nought, d(1, 0), nought), list(nought, nought, nought, nought), false}, {list(d(1, 1599), nought, d(1, 0), nought), list(nought, nought, nought, nought), true},
		{list(d(-1, 1600), nought, d(1, 1), nought), list(nought, nought, nought, nought), true}, {list(d(1, 1600), d(1, 1601), d(1, 0), nought), list(nought, nought, nought, nought), true},
		{list(d(1, 1601), d(1, 1600), nought, d(1, 0)), list(nought, nought, nought, nought), true}, {list(d(1, 1600), d(1, 1601), nought, d(1, 0)), list(nought, nought, nought, nought), false},
		// Products of x go out against each other: its square is nought.
		{list(nought, nought, nought, nought), list(d(1, 3000), d(1, 3000), d(-1, 3000), d(-1, 3000)), true}, {list(nought, nought, nought, nought), list(d(1, -3000), d(-1, -3000), d(1, -3000), d(-1, -3000)), true},
		{list(nought, d(5, 7), nought, nought), list(d(1, 3000), d(1, 3000), d(-1, 3000), d(-1, 3000)), true}, {list(nought, nought, nought, nought), list(nought, d(1, 3000), nought, nought), true},
		{list(nought, nought, nought, nought), list(nought, d(1, 3000), d(1, 3000), nought), false}, {list(nought, nought, nought, nought), list(d(1, 3000), d(1, 3000), d(-1, 3000), d(1, 3000)), false},
	}
	for i, row := range rows {
		a, x := matOf(2, row.a...), matOf(2, row.x...)
		if ok := sameResidual(t, a, x); ok != row.ok {
			t.Fatal(i, ok)
		}
		for n := 3; n <= impl.MaxN; n++ {
			if ok := sameResidual(t, bordered2(a, n), bordered2(x, n)); ok != row.ok {
				t.Fatal(i, n, ok)
			}
		}
	}
}

// bordered2 is m with noughts to the left and above, up to n.
func bordered2(m impl.Mat, n int) impl.Mat {
	wide := noughts(n)
	for place, d := range m.A {
		wide.A[(place/m.N+n-m.N)*n+place%m.N+n-m.N] = d
	}
	return wide
}

func TestResidualUnlikeN(t *testing.T) {
	for n := 1; n <= impl.MaxN; n++ {
		for k := 1; k <= impl.MaxN; k++ {
			for _, a := range []impl.Mat{noughts(n), ones(n), diagonal(n, dyInt(4, 0))} {
				for _, x := range []impl.Mat{noughts(k), ones(k), diagonal(k, dyInt(2, 0))} {
					got, ok := impl.Residual(a, x)
					if n != k {
						refusedDy(t, fmt.Sprint(n, " and ", k), got, ok)
					} else if !ok {
						t.Fatal(n, k)
					}
				}
			}
		}
	}
}

func TestRootMatStepsAtTheEdges(t *testing.T) {
	for n := 1; n <= impl.MaxN; n++ {
		for _, a := range []impl.Mat{diagonal(n, dyInt(1, 0)), diagonal(n, dyInt(3, -1)), noughts(n)} {
			for _, low := range []int{0, -8, -120} {
				for _, steps := range []int{-1, 13, -2, 14, 24, -12, 100, 1 << 32, 1<<32 + 1, -1 << 32, -1<<32 + 12, 1 << 62, math.MaxInt, math.MinInt, math.MinInt + 1} {
					x, far, ok := impl.RootMat(a, low, steps)
					refusedMat(t, fmt.Sprint("RootMat by ", steps), x, ok)
					refusedDy(t, fmt.Sprint("RootMat by ", steps), far, ok)
				}
				for _, steps := range []int{0, 1, 11, 12} {
					if _, ok := sameRootMat(t, a, low, steps); ok != (steps == 0 || len(a.A[0].M.A.L) > 0) {
						t.Fatal(n, low, steps, ok)
					}
				}
			}
		}
	}
}

// noInverse is a matrix, and the step that finds none: of X, or of Z.
type noInverse struct {
	a         impl.Mat
	low, step int
	ofX, ofZ  bool
}

func noInverses() []noInverse {
	number := func(n int, e int) impl.Mat { return matInts(1, e, n) }
	odd := func(numbers ...impl.Dy) impl.Mat { return matOf(3, numbers...) }
	list := []noInverse{
		{number(0, 0), 0, 1, true, false}, {number(0, 0), -120, 1, true, false}, {matInts(2, 0, 1, 2, 2, 4), -7, 1, true, false}, {matInts(2, 0, 0, 1, 0, 0), -7, 1, true, false}, {matInts(4, 0, 1, 2, 3, 4, 5, 6, 7, 8, 9, 10, 11, 12, 13, 14, 15, 16), -30, 1, true, false},
		// What is rounded is 0, or of a lower rank; a little more is not.
		{number(1, -11), 0, 1, true, false}, {number(-1, -11), 0, 1, true, false}, {number(1, -131), -120, 1, true, false}, {number(1, -3000), -120, 1, true, false}, {matOf(2, dyInt(1, 0), dyInt(1, 0), dyInt(1, 0), dyInt(2049, -11)), 0, 1, true, false},
		// The root of -1 comes to 0 at once.
		{number(-1, 0), 0, 2, true, true}, {number(-1, 0), -120, 2, true, true}, {diagonal(4, dyInt(-1, 0)), -50, 2, true, true}, {matInts(2, 0, 3, 0, 0, -1), -50, 2, true, true},
		{odd(dyInt(-32767, -15), dyInt(65535, -20), dyInt(32767, -15), impl.Dy{}, dyInt(23825, -23), impl.Dy{}, dyInt(1045, -20), dyInt(-65535, -20), dyInt(-64441, -14)), -1, 2, false, true},
		{number(-7035, -9), 0, 9, false, true},
	}
	for n := 1; n <= impl.MaxN; n++ {
		for k := range n {
			list = append(list, noInverse{with(diagonal(n, dyInt(2, 0)), k*n+k, impl.Dy{}), -20, 1, true, false})
		}
	}
	return list
}

// The step that finds no inverse is refused, and so are all later ones; the steps ahead of it answer.
func TestRootMatWithoutAnInverse(t *testing.T) {
	for _, row := range noInverses() {
		for steps := range 13 {
			way, ok := sameRootMat(t, row.a, row.low, steps)
			if ok != (steps < row.step) || !ok && (way.noX != row.ofX || way.noZ != row.ofZ) {
				t.Fatal(row, steps, ok, way)
			}
		}
	}
	for _, a := range []impl.Mat{matInts(1, -10, 1), matInts(1, -12, 3), matOf(2, dyInt(1, 0), dyInt(1, 0), dyInt(1, 0), dyInt(1025, -10)), matInts(1, 0, -3)} {
		if _, ok := sameRootMat(t, a, 0, 1); !ok {
			t.Fatal("refused", a)
		}
	}
}

// Inverses on the way have many hundred bits, and all is as the steps make it.
func TestRootMatLongInverses(t *testing.T) {
	for low := -120; low <= -100; low++ {
		for _, d := range []impl.Dy{dyInt(1, low-10), dyInt(-3, low-10), dy(plus(two(10-low), 1), low-10), dy(plus(minus(two(10-low)), 3), low-10), dy(plus(minus(two(10-low)), -7), low-10)} {
			for n := 1; n <= impl.MaxN; n++ {
				a := diagonal(n, d)
				for place := range n * n {
					if place%n > place/n {
						a.A[place] = dyInt(14-place%3, 0)
					}
				}
				for _, steps := range []int{1, 2, 3, 12} {
					if _, ok := sameRootMat(t, a, low, steps); !ok {
						t.Fatal("refused", a, low, steps)
					}
				}
			}
		}
	}
}

// The numbers of a root may always be told here, its Residual not: then all is refused.
func TestRootMatWhoseResidualMayNotBeTold(t *testing.T) {
	tiny := dyInt(1, -2000)
	beside := func(n int, d impl.Dy, e impl.Dy) impl.Mat { return with(diagonal(n, d), n*n-2, e) }
	rows := []struct {
		a          impl.Mat
		low, steps int
		ok         bool
	}{
		{beside(2, dyInt(4, 0), tiny), 0, 0, false}, {beside(2, dyInt(4, 0), tiny), 0, 12, true}, {beside(2, dyInt(2, 0), tiny), -7, 12, false}, {beside(3, dyInt(4, 0), tiny), -100, 12, true}, {beside(4, dyInt(1, 0), tiny), 0, 0, true},
		{beside(4, dyInt(1, 0), tiny), 0, 12, true}, {beside(4, dyInt(3, 0), dyInt(-5, -3000)), -60, 12, false}, {beside(3, dyInt(1, 0), dyInt(1, -3000)), -60, 3, true}, {beside(3, dyInt(9, 0), dy(mostNat(), -3000)), -20, 12, true},
		{beside(3, dyInt(10, 0), dy(mostNat(), -3000)), -20, 12, false}, {matInts(1, -3000, 1), 0, 0, true}, {matInts(1, -3000, 1), 0, 1, false}, {matOf(1, dy(plus(two(1599), 1), -1699)), -120, 1, false}, {matOf(1, dy(plus(two(1599), 1), -1699)), -120, 0, true},
		{matOf(1, dy(plus(two(1599), 1), -1598)), 0, 0, true}, {matOf(1, dy(plus(two(1599), 1), -1598)), 0, 12, true}, {matOf(1, dy(plus(two(1599), 1), -1593)), 0, 0, false}, {matOf(1, dy(plus(two(1599), 3), -1594)), 0, 0, false}, {matOf(1, dy(plus(two(1599), 3), -1594)), 0, 12, true},
	}
	for _, row := range rows {
		if _, ok := sameRootMat(t, row.a, row.low, row.steps); ok != row.ok {
			t.Fatal(row, ok)
		}
	}
	// By columns: beside a greater sum, what may not be told does not matter.
	long := func(n int) impl.Dy { return must[impl.Dy](t)(impl.DyAdd(dyInt(n, 0), dyInt(1, -1590))) }
	for _, row := range []struct {
		a, b, c, d impl.Dy
		ok         bool
	}{
		{dyInt(16, 0), dyInt(1, -1650), impl.Dy{}, long(9), true}, {long(9), impl.Dy{}, dyInt(1, -1650), dyInt(16, 0), true}, {long(16), impl.Dy{}, dyInt(1, -1650), dyInt(9, 0), false},
		{dyInt(9, 0), dyInt(1, -1650), impl.Dy{}, long(16), false}, {long(16), dyInt(1, -1650), impl.Dy{}, dyInt(9, 0), true},
	} {
		if _, ok := sameRootMat(t, matOf(2, row.a, row.b, row.c, row.d), -4, 0); ok != row.ok {
			t.Fatal(row, ok)
		}
	}
}
