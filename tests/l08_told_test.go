package tests

import (
	"fmt"
	"math"
	"math/big"
	"slices"
	"testing"

	"loop.example/g00382/impl"
)

// ones is 1 in every place, so that all but one place of what is made of it may be told anyhow.
func ones(n int) impl.Mat { return matOf(n, slices.Repeat([]impl.Dy{dyInt(1, 0)}, n*n)...) }

// edgeRow has two numbers, and whether what is made of them may be told.
type edgeRow struct {
	x, y impl.Dy
	ok   bool
}

func sumRows() []edgeRow {
	most, one := dy(mostNat(), 0), dyInt(1, 0)
	return []edgeRow{
		{dyInt(1, 1599), one, true}, {dyInt(1, 1600), one, false}, {most, one, true}, {most, dyInt(2, 0), false}, {most, most, true}, {most, dy(minus(mostNat()), 0), true},
		{dyInt(1, -1), most, false}, {dyInt(1, 1598), dyInt(1, -1), true}, {dyInt(1, 1599), dyInt(1, -1), false}, {dyInt(1, -3000), dyInt(1, -1401), true}, {dyInt(1, -3000), dyInt(1, -1400), false},
		{dyInt(1, 2999), dyInt(1, 2999), true}, {dyInt(1, 3000), dyInt(1, 3000), false}, {dyInt(1, 3000), dyInt(-1, 3000), true}, {dyInt(1, 3000), dyInt(-3, 3000), false},
		{dyInt(1, 3000), dyInt(3, 3000), false}, {dyInt(1, 3000), dyInt(1, 1401), true}, {dyInt(1, 3000), dyInt(1, 1400), false}, {dyInt(1, -3000), dyInt(1, -3000), true},
		{dyInt(1, 3000), dyInt(1, -3000), false}, {dyInt(1, 3000), impl.Dy{}, true}, {dyInt(-1, -3000), impl.Dy{}, true}, {dy(mostNat(), 3000), dyInt(1, 3000), false},
		{dy(mostNat(), 2999), dyInt(3, 2999), true}, {dy(mostNat(), 2999), dyInt(2, 2999), false}, {dy(mostNat(), 1400), dyInt(1, 1400), true}, {dy(mostNat(), 1401), dyInt(1, 1401), false},
	}
}

func TestMatSumsThatMayNotBeToldInOnePlace(t *testing.T) {
	for _, row := range sumRows() {
		for n := 1; n <= impl.MaxN; n++ {
			for place := range n * n {
				for _, sign := range []bool{false, true} {
					x, y := row.x, row.y
					if sign {
						x, y = impl.DyNeg(x), impl.DyNeg(y)
					}
					a, b, less := with(ones(n), place, x), with(ones(n), place, y), with(ones(n), place, impl.DyNeg(y))
					for _, pair := range [][2]impl.Mat{{a, b}, {b, a}} {
						if _, ok := impl.MatAdd(pair[0], pair[1]); ok != row.ok {
							t.Fatal("MatAdd", row, n, place, ok)
						}
						sameSum(t, pair[0], pair[1])
					}
					if _, ok := impl.MatSub(a, less); ok != row.ok {
						t.Fatal("MatSub", row, n, place, ok)
					}
					sameSum(t, a, less)
					sameSum(t, less, a)
				}
			}
		}
	}
}

func productRows() []edgeRow {
	long, short := dy(plus(two(800), 1), 0), dy(plus(two(800), -1), 0)
	most, one := dy(mostNat(), 0), dyInt(1, 0)
	return []edgeRow{
		{long, short, true}, {long, long, false}, {short, short, true}, {most, one, true}, {most, dyInt(-1, 0), true}, {most, dyInt(3, 0), false}, {most, dyInt(2, 0), true},
		{dyInt(1, 1500), dyInt(1, 1500), true}, {dyInt(1, 1500), dyInt(1, 1501), false}, {dyInt(1, -1500), dyInt(1, -1500), true}, {dyInt(1, -1500), dyInt(1, -1501), false},
		{dyInt(1, 3000), dyInt(1, -3000), true}, {dyInt(1, 3000), dyInt(2, 0), false}, {dyInt(1, 3000), dyInt(-3, 0), true}, {dyInt(1, -3000), dyInt(1, -1), false},
		{dyInt(1, 3000), dyInt(1, 3000), false}, {dyInt(-1, -3000), dyInt(1, -3000), false}, {dyInt(1, 3000), impl.Dy{}, true}, {dyInt(1, -3000), impl.Dy{}, true},
		{dy(mostNat(), 3000), dyInt(-1, 0), true}, {dy(mostNat(), -3000), dyInt(1, 0), true}, {dy(mostNat(), -3000), dyInt(1, -1), false},
	}
}

// onePlace has two matrices whose product has x times y in the row i and the column j, and little numbers else:
// k is the column and the row that these two come from.
func onePlace(n int, i int, j int, k int, x impl.Dy, y impl.Dy) (impl.Mat, impl.Mat) {
	a, b := ones(n), ones(n)
	for place := range n {
		a.A[i*n+place], a.A[place*n+k] = impl.Dy{}, impl.Dy{}
		b.A[place*n+j], b.A[k*n+place] = impl.Dy{}, impl.Dy{}
	}
	a.A[i*n+k], b.A[k*n+j] = x, y
	return a, b
}

func TestMatProductsThatMayNotBeToldInOnePlace(t *testing.T) {
	for _, row := range productRows() {
		for n := 1; n <= impl.MaxN; n++ {
			for place := range n * n * n {
				a, b := onePlace(n, place%n, place/n%n, place/n/n, row.x, row.y)
				for _, x := range []impl.Mat{a, with(a, place%n*n+place/n/n, impl.DyNeg(row.x))} {
					if _, ok := impl.MatMul(x, b); ok != row.ok {
						t.Fatal("MatMul", row, n, place, ok)
					}
					sameProduct(t, x, b)
				}
			}
		}
	}
}

func TestMatScaledThatMayNotBeToldInOnePlace(t *testing.T) {
	for _, row := range productRows() {
		for n := 1; n <= impl.MaxN; n++ {
			for place := range n * n {
				got, ok := impl.MatScale(with(noughts(n), place, row.x), row.y)
				if ok != row.ok {
					t.Fatal("MatScale", row, n, place, ok)
				}
				want := noughts(n)
				if !ok {
					refusedMat(t, "MatScale", got, ok)
					continue
				}
				want.A[place], _ = impl.DyMul(row.x, row.y)
				sameAsMat(t, "MatScale", got, ok, want)
			}
		}
	}
}

// wayRow has numbers, and whether their sum may be told: sums of some of them may not, whatever that is.
type wayRow struct {
	list []impl.Dy
	ok   bool
}

func wayRows() []wayRow {
	power := func(e int) impl.Dy { return dyInt(1, e) }
	less := func(e int) impl.Dy { return dyInt(-1, e) }
	most := dy(mostNat(), 0)
	return []wayRow{
		{[]impl.Dy{power(1600), power(0), less(1600)}, true}, {[]impl.Dy{power(3000), power(3000), less(3000)}, true}, {[]impl.Dy{power(3000), power(3000), power(3000)}, true},
		{[]impl.Dy{power(3000), power(-3000), less(3000)}, true}, {[]impl.Dy{power(3000), power(-3000), less(2999)}, false}, {[]impl.Dy{power(1600), power(0), most}, true},
		{[]impl.Dy{power(1600), power(0), power(1)}, false}, {[]impl.Dy{power(1600), power(0), power(0)}, true}, {[]impl.Dy{power(1600), power(0), less(0)}, true}, {[]impl.Dy{power(3000), power(3000), power(3000), power(3000)}, false},
		{[]impl.Dy{power(3000), power(3000), less(3000), less(3000)}, true}, {[]impl.Dy{power(2999), power(2999), power(2999), power(2999)}, false},
		{[]impl.Dy{power(2998), power(2998), power(2998), power(2998)}, true}, {[]impl.Dy{power(1600), power(0), power(-3000), less(1600)}, false},
		{[]impl.Dy{power(1600), power(0), power(-1599), less(1600)}, true}, {[]impl.Dy{power(1600), power(0), power(-1600), less(1600)}, false}, {[]impl.Dy{most, power(1), less(1), less(0)}, true},
		{[]impl.Dy{power(3000), power(0)}, false}, {[]impl.Dy{power(3000), power(3000)}, false}, {[]impl.Dy{power(3000), less(3000)}, true}, {[]impl.Dy{most, power(0)}, true}, {[]impl.Dy{most, power(1)}, false},
		{[]impl.Dy{most}, true}, {[]impl.Dy{power(3000)}, true}, {[]impl.Dy{less(-3000)}, true},
	}
}

// orders has the list in every order that turning it round makes.
func orders(list []impl.Dy) [][]impl.Dy {
	var all [][]impl.Dy
	for i := range list {
		all = append(all, slices.Concat(list[i:], list[:i]))
	}
	return all
}

func TestMatTraceOnTheWay(t *testing.T) {
	for _, row := range wayRows() {
		for _, list := range orders(row.list) {
			n := len(list)
			m := ones(n)
			for i, d := range list {
				m.A[i*n+i] = d
			}
			if _, ok := impl.MatTrace(m); ok != row.ok {
				t.Fatal("MatTrace", row, ok)
			}
			sameTrace(t, m)
		}
	}
}

func TestMatProductOnTheWay(t *testing.T) {
	for _, row := range wayRows() {
		for _, list := range orders(row.list) {
			n := len(list)
			for place := range n * n {
				i, j := place/n, place%n
				a, b := noughts(n), noughts(n)
				for k, d := range list {
					// What is half as far from 1 on either side makes d.
					half := d.E / 2
					a.A[i*n+k], b.A[k*n+j] = impl.Dy{M: d.M, E: half}, dyInt(1, d.E-half)
				}
				if _, ok := impl.MatMul(a, b); ok != row.ok {
					t.Fatal("MatMul", row, place, ok)
				}
				sameProduct(t, a, b)
			}
		}
	}
}

// Products on the way may not be told at all, where they go out against each other.
func TestMatProductsThatGoOut(t *testing.T) {
	long := dy(plus(two(800), 1), 0)
	rows := [][2]impl.Dy{{dyInt(1, 3000), dyInt(1, 3000)}, {dyInt(1, -3000), dyInt(1, -3000)}, {long, long}, {dy(mostNat(), 3000), dy(mostNat(), 3000)}, {dy(mostNat(), -3000), dy(mostNat(), -3000)}}
	for _, row := range rows {
		x, y := row[0], row[1]
		a, b := matOf(2, x, x, impl.Dy{}, impl.Dy{}), matOf(2, y, impl.Dy{}, impl.DyNeg(y), impl.Dy{})
		got, ok := impl.MatMul(a, b)
		sameAsMat(t, "products that go out", got, ok, noughts(2))
		a, b = with(noughts(3), 3, x), with(noughts(3), 2, y)
		a.A[4], a.A[5] = x, dyInt(3, 0)
		b.A[5], b.A[8] = impl.DyNeg(y), dyInt(5, -1)
		got, ok = impl.MatMul(a, b)
		sameAsMat(t, "products that go out beside one", got, ok, with(noughts(3), 5, dyInt(15, -1)))
	}
}

func TestMatNormOnTheWay(t *testing.T) {
	power := func(e int) impl.Dy { return dyInt(1, e) }
	most := dy(mostNat(), 0)
	rows := []wayRow{
		{[]impl.Dy{power(1599), power(0)}, true}, {[]impl.Dy{power(1600), power(0)}, false}, {[]impl.Dy{power(3000), power(3000)}, false}, {[]impl.Dy{power(2999), power(2999)}, true},
		{[]impl.Dy{power(3000), power(3000), power(3000)}, true}, {[]impl.Dy{power(3000), power(3000), power(3000), power(3000)}, false}, {[]impl.Dy{power(1600), power(0), most}, true},
		{[]impl.Dy{power(1600), power(0), power(1)}, false}, {[]impl.Dy{power(1600), power(0), power(0)}, true}, {[]impl.Dy{most, power(0)}, true}, {[]impl.Dy{most, power(1)}, false}, {[]impl.Dy{most, power(1), power(0), power(0)}, false},
		{[]impl.Dy{most, power(-1), power(-1)}, true}, {[]impl.Dy{power(-3000), power(-3000)}, true}, {[]impl.Dy{power(3000), power(-3000)}, false}, {[]impl.Dy{power(-3000)}, true}, {[]impl.Dy{power(3000)}, true},
	}
	for _, row := range rows {
		for round, list := range orders(row.list) {
			n := len(list)
			for column := range n {
				m := ones(n)
				if impl.DyCmp(list[0], power(-1000)) < 0 {
					m = noughts(n)
				}
				for i, d := range list {
					if (i+round)%2 == 1 {
						d = impl.DyNeg(d)
					}
					m.A[i*n+column] = d
				}
				if _, ok := impl.MatNorm(m); ok != row.ok {
					t.Fatal("MatNorm", row, column, ok)
				}
				sameNorm(t, m)
			}
		}
	}
}

// Just the greatest sum must be told; the others may be any.
func TestMatNormBesideSumsThatMayNotBeTold(t *testing.T) {
	power := func(e int) impl.Dy { return dyInt(1, e) }
	rows := []struct {
		less, more [2]impl.Dy
		norm       impl.Dy
	}{
		{[2]impl.Dy{power(1600), power(0)}, [2]impl.Dy{power(1601), {}}, power(1601)}, {[2]impl.Dy{power(1600), power(0)}, [2]impl.Dy{power(1600), power(1)}, dy(plus(two(1600), 2), 0)},
		{[2]impl.Dy{power(2999), power(-3000)}, [2]impl.Dy{power(3000), {}}, power(3000)}, {[2]impl.Dy{power(3000), power(3000)}, [2]impl.Dy{dyInt(3, 3000), {}}, dyInt(3, 3000)},
	}
	for _, row := range rows {
		for _, m := range []impl.Mat{matOf(2, row.less[0], row.more[0], row.less[1], row.more[1]), matOf(2, row.more[1], row.less[1], row.more[0], row.less[0]),
			matOf(3, row.less[0], row.more[0], row.less[1], row.less[1], row.more[1], row.less[0], impl.Dy{}, impl.Dy{}, impl.Dy{})} {
			got, ok := impl.MatNorm(m)
			if !ok {
				t.Fatal("refused", m)
			}
			sameDy(t, "MatNorm", got, scaled(row.norm), -impl.MaxE)
			sameNorm(t, m)
			got, ok = impl.MatNorm(matOf(1, row.less[0]))
			sameDyTold(t, "MatNorm", got, ok, scaled(row.less[0]), -impl.MaxE)
			got, ok = impl.MatNorm(matOf(2, row.less[0], impl.Dy{}, row.less[1], impl.Dy{}))
			refusedDy(t, "MatNorm", got, ok)
		}
	}
}

// wantPower goes on by exact products, and says whether all powers up to k may be told.
func wantPower(a impl.Mat, k int) ([]*big.Int, int, bool) {
	power, e := scaledMat(diagonal(a.N, dyInt(1, 0))), -impl.MaxE
	told := true
	for range k {
		power, e = timesBig(a.N, power, scaledMat(a)), e-impl.MaxE
		told = told && !slices.ContainsFunc(power, func(x *big.Int) bool { return !dyTellable(x, e) })
	}
	return power, e, told
}

func samePower(t *testing.T, a impl.Mat, k int) bool {
	t.Helper()
	want, e, told := wantPower(a, k)
	got, ok := impl.MatPow(a, k)
	if ok != told {
		t.Fatalf("MatPow of %v by %d: %t", a, k, ok)
	}
	if !ok {
		refusedMat(t, "MatPow", got, ok)
		return false
	}
	sameMatTold(t, fmt.Sprintf("MatPow of %v by %d", a, k), got, ok, a.N, want, e)
	return true
}

// lastPower says up to which power all may be told: all of 0 .. 30 may, or those behind it are refused.
type lastPower struct {
	name string
	m    impl.Mat
	last int
}

func lastPowers() []lastPower {
	power := func(e int) impl.Dy { return dyInt(1, e) }
	long, short := dy(plus(two(800), 1), 0), dy(plus(two(800), -1), 0)
	chain := func(list ...impl.Dy) impl.Mat {
		n := len(list) + 1
		m := noughts(n)
		for i, d := range list {
			m.A[i*n+i+1] = d
		}
		return m
	}
	ring := func(p, q, r impl.Dy) impl.Mat {
		return with(chain(p, q), 6, r)
	}
	return []lastPower{
		{"2^100", diagonal(1, power(100)), 30}, {"2^101", diagonal(2, power(101)), 29}, {"2^-100", diagonal(3, power(-100)), 30}, {"2^-101", diagonal(4, power(-101)), 29},
		{"2^1500", diagonal(2, power(1500)), 2}, {"2^1501", diagonal(2, power(1501)), 1}, {"2^3000", diagonal(2, power(3000)), 1}, {"2^-3000", matOf(1, power(-3000)), 1},
		{"1590 bits", matOf(1, dy(plus(two(53), 1), 0)), 30}, {"54 bits each", matOf(1, dy(plus(two(54), -1), 0)), 29},
		{"one place alone", with(diagonal(4, dyInt(1, 0)), 10, power(-1501)), 1}, {"one place alone, at the end", with(diagonal(4, dyInt(1, 0)), 15, power(1500)), 2},
		{"a square of 1601 bits, then nought", chain(long, long), 1}, {"a square of 1600 bits, then nought", chain(long, short), 30},
		{"a square beyond MaxE, then nought", chain(power(1500), power(1501)), 1}, {"a square of MaxE, then nought", chain(power(1500), power(1500)), 30},
		{"a square below -MaxE, then nought", chain(power(-1500), power(-1501)), 1}, {"a square of -MaxE, then nought", chain(power(-1500), power(-1500)), 30},
		{"a third power beyond MaxE, then nought", chain(power(1000), power(1000), power(1001)), 2}, {"a third power of MaxE, then nought", chain(power(1000), power(1000), power(1000)), 30},
		{"a square beyond MaxE beside one, a third power within", chain(power(2000), power(1001), power(-3000)), 1},
		{"a square beyond MaxE, a third power within", ring(power(1501), power(1501), power(-2000)), 1}, {"squares within, and a third power of one", ring(power(1500), power(1500), power(-3000)), 30},
		{"a square of 1601 bits, a third power too", ring(long, long, power(-5)), 1}, {"a square that is one", with(chain(power(2000)), 2, power(-2000)), 30},
		{"a nought", noughts(3), 30}, {"itself alone", matOf(2, dy(mostNat(), 3000), impl.Dy{}, impl.Dy{}, dyInt(1, 0)), 1},
	}
}

func TestMatPowersThatMayNotBeTold(t *testing.T) {
	for _, row := range lastPowers() {
		for k := 0; k <= 30; k++ {
			if samePower(t, row.m, k) != (k <= row.last) {
				t.Fatal(row.name, k)
			}
		}
	}
	// The last power may be told by itself in these, and is refused for the sake of a less one.
	alone := 0
	for _, row := range lastPowers() {
		want, e, told := wantPower(row.m, 3)
		if !told && !slices.ContainsFunc(want, func(x *big.Int) bool { return !dyTellable(x, e) }) {
			alone++
		}
	}
	if alone < 4 {
		t.Fatal("few powers are refused for a less one:", alone)
	}
}

// Rounded up, what is near 2^3001 may not be told.
func TestMatRoundedThatMayNotBeTold(t *testing.T) {
	for n := 1; n <= impl.MaxN; n++ {
		for place := range n * n {
			m := with(ones(n), place, dyInt(3, 2999))
			for mode, ok := range []bool{false, true, false, true, false} {
				sameRoundedMat(t, m, 3000, mode)
				if _, is := impl.MatRound(with(noughts(n), place, dyInt(3, 2999)), 3000, mode); is != ok {
					t.Fatal(n, place, mode, is)
				}
			}
			for mode, ok := range []bool{false, true, true, false, false} {
				if _, is := impl.MatRound(with(noughts(n), place, dyInt(-3, 2999)), 3000, mode); is != ok {
					t.Fatal(n, place, mode, is)
				}
			}
			for _, mode := range modes() {
				sameRoundedMat(t, m, -3000, mode)
				sameRoundedMat(t, with(m, place, dyInt(-5, 2998)), 3000, mode)
				sameRoundedMat(t, with(m, place, dy(mostNat(), -3000)), -3000, mode)
				sameRoundedMat(t, with(m, place, dy(minus(mostNat()), -3000)), -2999, mode)
			}
		}
	}
}

func TestMatWrongLowsAndModes(t *testing.T) {
	for n := 1; n <= impl.MaxN; n++ {
		for _, m := range []impl.Mat{noughts(n), ones(n), diagonal(n, dyInt(1, 3000)), diagonal(n, dyInt(-5, -3000))} {
			for _, place := range wrongPlaces() {
				got, ok := impl.MatRound(m, place[0], place[1])
				refusedMat(t, fmt.Sprint("MatRound ", place), got, ok)
			}
			for _, mode := range badModes() {
				got, ok := impl.MatRound(m, 0, mode)
				refusedMat(t, fmt.Sprint("MatRound ", mode), got, ok)
			}
			for _, mode := range modes() {
				for _, low := range []int{-3001, 3001, math.MinInt, math.MaxInt} {
					got, ok := impl.MatRound(m, low, mode)
					refusedMat(t, fmt.Sprint("MatRound ", low), got, ok)
				}
				sameRoundedMat(t, m, -3000, mode)
				sameRoundedMat(t, m, 3000, mode)
			}
		}
	}
}
