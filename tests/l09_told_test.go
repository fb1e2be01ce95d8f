package tests

import (
	"fmt"
	"math"
	"math/big"
	"slices"
	"testing"

	"loop.example/g00382/impl"
)

// sumDet is a matrix whose determinant is the sum of the list: all determinants of minors along its first row are one.
func sumDet(list []impl.Dy) impl.Mat {
	n := len(list)
	m := noughts(n)
	copy(m.A, list)
	for i := 1; i < n; i++ {
		m.A[i*n+i-1], m.A[i*n+i] = dyInt(-1, 0), dyInt(1, 0)
	}
	return m
}

// productDet is a matrix whose determinant is x times y.
func productDet(n int, x impl.Dy, y impl.Dy) impl.Mat {
	return with(with(diagonal(n, dyInt(1, 0)), 0, x), n*n-1, y)
}

// edgeMats has matrices, and whether their determinants may be told.
func edgeMats() []lastDet {
	var list []lastDet
	for _, row := range wayRows() {
		for _, order := range orders(row.list) {
			m := sumDet(order)
			list = append(list, lastDet{"a sum", m, row.ok}, lastDet{"a sum turned", turned(m), row.ok})
		}
	}
	for _, row := range sumRows() {
		list = append(list, lastDet{"a sum of two", sumDet([]impl.Dy{row.x, row.y}), row.ok}, lastDet{"a sum beside 0", sumDet([]impl.Dy{row.x, {}, row.y}), row.ok})
	}
	for _, row := range productRows() {
		for n := 2; n <= impl.MaxN; n++ {
			list = append(list, lastDet{"a product", productDet(n, row.x, row.y), row.ok})
		}
	}
	most, less := dy(mostNat(), 0), dy(plus(mostNat(), -2), 0)
	power := func(e int) impl.Dy { return dyInt(1, e) }
	return append(list,
		lastDet{"2^-3000 of four", diagonal(4, power(-750)), true}, lastDet{"2^-3001 of four", with(diagonal(4, power(-750)), 5, power(-751)), false},
		lastDet{"2^3000 of four", diagonal(4, power(750)), true}, lastDet{"2^3001 of four", with(diagonal(4, power(750)), 10, power(751)), false},
		lastDet{"2^3000 of three", diagonal(3, power(1000)), true}, lastDet{"2^3001 of three", with(diagonal(3, power(1000)), 8, power(1001)), false},
		lastDet{"1600 bits of four", diagonal(4, dy(plus(two(400), -1), 0)), true}, lastDet{"1601 bits of four", diagonal(4, dy(plus(two(400), 1), 0)), false},
		lastDet{"2^-12000", diagonal(4, power(-3000)), false}, lastDet{"2^12000", diagonal(4, power(3000)), false}, lastDet{"beyond and back", with(with(diagonal(4, power(3000)), 0, power(-3000)), 5, power(-3000)), true},
		lastDet{"itself", matOf(1, dy(mostNat(), 3000)), true}, lastDet{"itself below 0", matOf(1, dy(minus(mostNat()), -3000)), true}, lastDet{"of one the least", matOf(1, power(-3000)), true},
		lastDet{"products that go out", matOf(2, power(3000), power(3000), power(3000), power(3000)), true}, lastDet{"long ones that go out", matOf(2, most, less, most, less), true},
		lastDet{"long ones that nearly go out", matOf(2, most, less, most, most), true}, lastDet{"three times that", matOf(2, dyInt(3, 0), dyInt(3, 0), most, less), true}, lastDet{"far ones that go out", matOf(2, power(-3000), power(-3000), power(-3000), power(-3000)), true},
		lastDet{"long ones that leave much", matOf(2, most, dyInt(3, 0), dyInt(3, 0), most), false}, lastDet{"long ones that leave noughts", matOf(2, most, dyInt(1, 0), dyInt(1, 0), most), true},
		lastDet{"by the least", matOf(2, power(3000), dyInt(1, 0), dyInt(1, 0), dyInt(3, -3000)), true},
		lastDet{"by the least, told no more", matOf(2, power(-1500), power(-1500), power(-1500), dy(plus(two(1), 1), -1501)), false}, lastDet{"by the least, told yet", matOf(2, power(-1500), power(-1499), power(-1500), dy(plus(two(1), 1), -1500)), true})
}

// lastDet is a matrix, and whether its determinant may be told.
type lastDet struct {
	name string
	m    impl.Mat
	ok   bool
}

func TestMatDetThatMayNotBeTold(t *testing.T) {
	for _, row := range edgeMats() {
		if sameDet(t, row.m) != row.ok {
			t.Fatal(row.name, row.m)
		}
		// Turned, and with all numbers below 0 that were above it, as much may be told.
		if sameDet(t, turned(row.m)) != row.ok || sameDet(t, opposites(row.m)) != row.ok {
			t.Fatal(row.name, row.m)
		}
		sameRank(t, row.m, rankByRows(row.m))
	}
}

func opposites(m impl.Mat) impl.Mat {
	other := copyMat(m)
	for i, d := range other.A {
		other.A[i] = impl.DyNeg(d)
	}
	return other
}

// bordered has a row and a column of noughts more, at these places: its adjugate has but one number that is not 0, the determinant of m.
func bordered(m impl.Mat, row int, column int) impl.Mat {
	other := noughts(m.N + 1)
	place := 0
	for i := range m.N + 1 {
		for j := range m.N + 1 {
			if i != row && j != column {
				other.A[i*(m.N+1)+j] = m.A[place]
				place++
			}
		}
	}
	return other
}

func TestMatAdjThatMayNotBeToldInOnePlace(t *testing.T) {
	for i, edge := range edgeMats() {
		if edge.m.N == impl.MaxN {
			continue
		}
		n := edge.m.N + 1
		for place := range n * n {
			if (i+place)%3 != 0 && i%7 != 0 {
				continue
			}
			m := bordered(edge.m, place/n, place%n)
			if sameAdj(t, m) != edge.ok {
				t.Fatal(edge.name, n, place)
			}
			// The determinant is 0, and may be told, however great that number is.
			if !sameDet(t, m) {
				t.Fatal(edge.name, n, place)
			}
		}
	}
}

// Each number that may be told stands in an adjugate of two, and of one the adjugate is one; the determinant may be any.
func TestMatAdjOfTwo(t *testing.T) {
	numbers := manyDys()
	refused := 0
	for i := range numbers {
		m := matOf(2, numbers[i], numbers[(3*i+1)%len(numbers)], numbers[(5*i+2)%len(numbers)], numbers[(7*i+3)%len(numbers)])
		if !sameAdj(t, m) {
			t.Fatal("refused", m)
		}
		if !sameDet(t, m) {
			refused++
		}
	}
	if refused < len(numbers)/2 {
		t.Fatal("few determinants are refused:", refused)
	}
}

// ring has the numbers on a way round some of the rows and columns: the polynomial has but their product beside one.
func ring(n int, places []int, numbers []impl.Dy) impl.Mat {
	m := noughts(n)
	for i, place := range places {
		m.A[place*n+places[(i+1)%len(places)]] = numbers[i]
	}
	return m
}

// chosen has all lists of so many of the first n, in order.
func chosen(n int, many int) [][]int {
	if many == 0 {
		return [][]int{nil}
	}
	var all [][]int
	for last := many - 1; last < n; last++ {
		for _, list := range chosen(last, many-1) {
			all = append(all, append(slices.Clone(list), last))
		}
	}
	return all
}

func TestMatPolyThatMayNotBeToldInOneNumber(t *testing.T) {
	for _, row := range productRows() {
		for n := 2; n <= impl.MaxN; n++ {
			for many := 2; many <= n; many++ {
				for round, places := range chosen(n, many) {
					numbers := slices.Repeat([]impl.Dy{dyInt(1, 0)}, many)
					numbers[round%many], numbers[(round+1)%many] = row.x, row.y
					poly, ok := samePoly(t, ring(n, places, numbers))
					if ok != row.ok {
						t.Fatal("MatPoly", row, n, places)
					}
					for i, d := range poly {
						if i != n && i != n-many && !equalDys(d, impl.Dy{}) {
							t.Fatal("other numbers are 0", poly)
						}
					}
				}
			}
		}
	}
}

// All rows are alike, so that nothing but the sum of the numbers on the way down is in the polynomial, beside one.
func TestMatPolySumsOnTheWay(t *testing.T) {
	rows := wayRows()
	for _, row := range sumRows() {
		rows = append(rows, wayRow{[]impl.Dy{row.x, row.y}, row.ok}, wayRow{[]impl.Dy{row.x, {}, {}, row.y}, row.ok})
	}
	for _, row := range rows {
		for _, list := range orders(row.list) {
			m := matOf(len(list), slices.Concat(slices.Repeat([][]impl.Dy{list}, len(list))...)...)
			if _, ok := samePoly(t, m); ok != row.ok {
				t.Fatal("MatPoly", row, ok)
			}
			if _, ok := samePoly(t, turned(m)); ok != row.ok {
				t.Fatal("MatPoly turned", row, ok)
			}
		}
	}
	// A sum of products in the middle, of which each may not be told by itself.
	for _, row := range productRows() {
		m := noughts(4)
		m.A[1], m.A[4], m.A[11], m.A[14] = row.x, row.y, impl.DyNeg(row.x), row.y
		if _, ok := samePoly(t, with(with(m, 11, impl.Dy{}), 14, impl.Dy{})); ok != row.ok {
			t.Fatal("MatPoly", row, ok)
		}
		// Its first number is their product's square: that must be told, too.
		square := new(big.Int).Mul(bigOfWhole(row.x.M), bigOfWhole(row.y.M))
		_, ok := samePoly(t, m)
		if ok != dyTellable(square.Mul(square, square), 2*(row.x.E+row.y.E)) {
			t.Fatal("MatPoly", row, ok)
		}
		m.A[3], m.A[12] = row.x, impl.DyNeg(row.y)
		m.A[11], m.A[14] = impl.Dy{}, impl.Dy{}
		if _, ok := samePoly(t, m); !ok {
			t.Fatal("products that go out", row)
		}
	}
}

func TestPolyAtThatMayNotBeToldInOnePlace(t *testing.T) {
	one := dyInt(1, 0)
	for _, row := range productRows() {
		for n := 1; n <= impl.MaxN; n++ {
			for place := range n * n {
				for _, p := range [][]impl.Dy{{{}, row.y}, {{}, row.y, {}, {}}} {
					if samePolyAt(t, p, with(noughts(n), place, row.x)) != row.ok {
						t.Fatal("PolyAt", row, n, place)
					}
				}
			}
		}
	}
	for _, row := range sumRows() {
		for n := 1; n <= impl.MaxN; n++ {
			for i := range n {
				if samePolyAt(t, []impl.Dy{row.x, one}, with(noughts(n), i*n+i, row.y)) != row.ok {
					t.Fatal("PolyAt", row, n, i)
				}
				if samePolyAt(t, []impl.Dy{row.x, row.y}, with(noughts(n), i*n+i, one)) != row.ok {
					t.Fatal("PolyAt", row, n, i)
				}
			}
		}
	}
	for _, row := range wayRows() {
		for n := 1; n <= impl.MaxN; n++ {
			for _, list := range orders(row.list) {
				for _, spare := range []int{0, 3, 12 - len(list)} {
					p := slices.Concat(make([]impl.Dy, spare), list)
					// In nought but for a one on the way down, p has its sum there.
					if samePolyAt(t, p, with(noughts(n), n*n-1, one)) != row.ok {
						t.Fatal("PolyAt", row, n, spare)
					}
				}
			}
		}
	}
}

// Powers on the way may not be told at all, nor what they are multiplied to, where the sum may be.
func TestPolyAtOnTheWay(t *testing.T) {
	mat := must[impl.Mat](t)
	most := dy(mostNat(), 3000)
	power := func(e int) impl.Dy { return dyInt(1, e) }
	nought := impl.Dy{}
	far := func(n int) impl.Mat { return with(diagonal(n, power(3000)), 0, most) }
	for n := 1; n <= impl.MaxN; n++ {
		// Noughts with powers that may not be told.
		mustEq(t, "noughts", mat(impl.PolyAt([]impl.Dy{dyInt(5, 0), {}, {}, {}, {}, {}, {}, {}, {}, {}, {}, {}}, far(n))), diagonal(n, dyInt(5, 0)))
		mustEq(t, "noughts", mat(impl.PolyAt([]impl.Dy{{}, dyInt(1, 0), {}, {}}, far(n))), far(n))
		for _, e := range []int{1000, 1500, 2000, 3000, -1000, -1500, -2000, -3000} {
			for k := 0; k < 12; k++ {
				p := make([]impl.Dy, 12)
				p[k] = power(-e)
				if ok := samePolyAt(t, p, diagonal(n, power(e))); ok != (k*max(e, -e) <= 3000+max(e, -e)) {
					t.Fatal("PolyAt", e, k, ok)
				}
			}
		}
	}
	// What is its own square, times numbers that go out.
	idem := matOf(2, nought, most, nought, dyInt(1, 0))
	mustEq(t, "it goes out", mat(impl.PolyAt([]impl.Dy{dyInt(7, 0), dyInt(3, 3000), dyInt(-3, 3000)}, idem)), diagonal(2, dyInt(7, 0)))
	mustEq(t, "it nearly goes out", mat(impl.PolyAt([]impl.Dy{{}, dyInt(3, 0), {}, dyInt(-1, 1)}, idem)), idem)
	got, ok := impl.PolyAt([]impl.Dy{{}, dyInt(3, 0)}, idem)
	refusedMat(t, "it does not go out", got, ok)
	// Its square is nought, whatever it is.
	nil2 := matOf(2, nought, most, nought, nought)
	mustEq(t, "its powers are nought", mat(impl.PolyAt(slices.Concat([]impl.Dy{dyInt(1, 0), dyInt(1, 0)}, slices.Repeat([]impl.Dy{most}, 10)), nil2)), matOf(2, dyInt(1, 0), most, nought, dyInt(1, 0)))
	// In their own polynomials these have powers that may not be told.
	for _, m := range []impl.Mat{diagonal(1, most), with(noughts(2), 0, most), with(noughts(3), 4, dyInt(-1, -3000)), with(noughts(4), 15, most), matOf(2, nought, power(3000), power(-3000), nought),
		with(with(with(noughts(3), 1, power(2500)), 5, power(2500)), 6, power(-3000)), matOf(2, dyInt(1, 0), most, nought, dyInt(1, 0))} {
		poly, ok := samePoly(t, m)
		if !ok {
			t.Fatal("refused", m)
		}
		mustEq(t, "in its own polynomial", mat(impl.PolyAt(poly, m)), noughts(m.N))
	}
}

func TestPolyAtLengths(t *testing.T) {
	for n := 1; n <= impl.MaxN; n++ {
		for many := range 40 {
			for _, d := range []impl.Dy{{}, dyInt(1, 0)} {
				p := slices.Repeat([]impl.Dy{d}, many)
				for _, m := range []impl.Mat{noughts(n), diagonal(n, dyInt(1, 0)), ones(n)} {
					if many <= 12 {
						if !samePolyAt(t, p, m) {
							t.Fatal("refused", n, many)
						}
						continue
					}
					got, ok := impl.PolyAt(p, m)
					refusedMat(t, fmt.Sprint("PolyAt of ", many), got, ok)
				}
			}
		}
	}
}

func TestMatMinorPlaces(t *testing.T) {
	far := []int{math.MinInt, -1 << 32, -4, -2, -1, 1 << 32, 1<<32 + 1, 1 << 62, 63, 64, 65, math.MaxInt - 1, math.MaxInt}
	for n := 1; n <= impl.MaxN; n++ {
		for _, m := range []impl.Mat{noughts(n), ones(n), diagonal(n, dy(mostNat(), 3000))} {
			for i := -2; i <= n+2; i++ {
				for j := -2; j <= n+2; j++ {
					got, ok := impl.MatMinor(m, i, j)
					if n == 1 || i < 0 || i >= n || j < 0 || j >= n {
						refusedMat(t, fmt.Sprint("MatMinor ", n, i, j), got, ok)
						continue
					}
					sameAsMat(t, fmt.Sprint("MatMinor ", n, i, j), got, ok, matOf(n-1, cutOut(n, m.A, i, j)...))
				}
			}
			for _, wrong := range far {
				for _, place := range append(slices.Clone(far), 0, 1, n-1, n) {
					got, ok := impl.MatMinor(m, wrong, place)
					refusedMat(t, fmt.Sprint("MatMinor ", n, wrong, place), got, ok)
					got, ok = impl.MatMinor(m, place, wrong)
					refusedMat(t, fmt.Sprint("MatMinor ", n, place, wrong), got, ok)
				}
			}
		}
	}
}
