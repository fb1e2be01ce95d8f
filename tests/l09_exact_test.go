package tests

import (
	"fmt"
	"math/big"
	"math/rand"
	"slices"
	"testing"

	"loop.example/g00382/impl"
)

// fineness is the least s for which all numbers times 2^s are whole.
func fineness(lists ...[]impl.Dy) int {
	s := 0
	for _, d := range slices.Concat(lists...) {
		s = max(s, -d.E)
	}
	return s
}

// wholes has the numbers times 2^s.
func wholes(list []impl.Dy, s int) []*big.Int {
	var all []*big.Int
	for _, d := range list {
		all = append(all, new(big.Int).Lsh(bigOfWhole(d.M), uint(d.E+s)))
	}
	return all
}

// leibniz is the determinant of a matrix of whole numbers: the sum over all ways to choose one of each row and column.
func leibniz(n int, list []*big.Int) *big.Int {
	sum := new(big.Int)
	var choose func(row int, columns []int, product *big.Int)
	choose = func(row int, columns []int, product *big.Int) {
		if row == n {
			sum.Add(sum, product)
			return
		}
		for j := range n {
			if slices.Contains(columns, j) {
				continue
			}
			next := new(big.Int).Mul(product, list[row*n+j])
			for _, before := range columns {
				if before > j {
					next.Neg(next)
				}
			}
			choose(row+1, append(slices.Clone(columns), j), next)
		}
	}
	choose(0, nil, big.NewInt(1))
	return sum
}

// cutOut is the list of a matrix of n without a row and a column.
func cutOut[T any](n int, list []T, row int, column int) []T {
	var left []T
	for place, x := range list {
		if place/n != row && place%n != column {
			left = append(left, x)
		}
	}
	return left
}

// reduce makes the first columns of whole rows those of a diagonal, as far as there are numbers that are not 0, and answers how far that is.
func reduce(rows [][]*big.Int, columns int) int {
	done := 0
	for column := range columns {
		pivot := done
		for pivot < len(rows) && rows[pivot][column].Sign() == 0 {
			pivot++
		}
		if pivot == len(rows) {
			continue
		}
		rows[done], rows[pivot] = rows[pivot], rows[done]
		for i, row := range rows {
			if i == done || row[column].Sign() == 0 {
				continue
			}
			by, times := rows[done][column], row[column]
			var next []*big.Int
			for j, x := range row {
				product := new(big.Int).Mul(x, by)
				next = append(next, product.Sub(product, new(big.Int).Mul(times, rows[done][j])))
			}
			rows[i] = next
		}
		done++
	}
	return done
}

// rowsOf has the rows of a matrix times 2^s, and behind each of them those of others, which are as many.
func rowsOf(m impl.Mat, s int, others ...[]*big.Int) [][]*big.Int {
	list := wholes(m.A, s)
	var rows [][]*big.Int
	for i := range m.N {
		row := slices.Clone(list[i*m.N : (i+1)*m.N])
		for _, other := range others {
			row = append(row, other[i])
		}
		rows = append(rows, row)
	}
	return rows
}

func turned(m impl.Mat) impl.Mat {
	other := noughts(m.N)
	for place, d := range m.A {
		other.A[place%m.N*m.N+place/m.N] = d
	}
	return other
}

func rankByRows(m impl.Mat) int { return reduce(rowsOf(m, fineness(m.A)), m.N) }

// ranked is a matrix and its rank.
type ranked struct {
	m    impl.Mat
	rank int
}

// someRanked is a product of small whole matrices that have just rank columns and rows, each row and column times a power of two.
func someRanked(source *rand.Rand, n int, rank int, far int) ranked {
	for {
		rows, columns := make([]int, n), make([]int, n)
		for i := range n {
			rows[i], columns[i] = source.Intn(2*far+1)-far, source.Intn(2*far+1)-far
		}
		m := noughts(n)
		left, right := smallMat(source, n), smallMat(source, n)
		for i := range n {
			for j := range n {
				sum := new(big.Int)
				for k := range rank {
					sum.Add(sum, new(big.Int).Mul(bigOfInt(left.A[i*n+k]), bigOfInt(right.A[k*n+j])))
				}
				m.A[i*n+j] = dy(sum, rows[i]+columns[j])
			}
		}
		// A product may have a lower rank than it is made for, by chance.
		if rankByRows(m) == rank {
			return ranked{m, rank}
		}
	}
}

// bigOfInt wants a whole number.
func bigOfInt(d impl.Dy) *big.Int { return new(big.Int).Lsh(bigOfWhole(d.M), uint(d.E)) }

// allRanks has matrices of every N and every rank, nought among them, whole ones first.
func allRanks(seed int64, many int, far int) []ranked {
	source := rand.New(rand.NewSource(seed))
	var list []ranked
	for n := 1; n <= impl.MaxN; n++ {
		for rank := 0; rank <= n; rank++ {
			for range many {
				list = append(list, someRanked(source, n, rank, 0), someRanked(source, n, rank, far))
			}
		}
	}
	return list
}

// manyMats has ordinary ones and such of every rank.
func manyMats(seed int64, many int) []impl.Mat {
	list := ordinary(seed, many)
	for _, r := range allRanks(seed+500, 1+many/4, 9) {
		list = append(list, r.m)
	}
	return list
}

// farMats has numbers of all lengths and powers in some places: answers of some of them may be told, of some not.
func farMats(seed int64, many int) []impl.Mat {
	source := rand.New(rand.NewSource(seed))
	numbers := manyDys()
	var list []impl.Mat
	for i := range many {
		n := 1 + i%impl.MaxN
		m := noughts(n)
		for place := range n * n {
			switch source.Intn(2 + n) {
			case 0:
				m.A[place] = numbers[source.Intn(len(numbers))]
			case 1:
				m.A[place] = dyInt(source.Intn(7)-3, 0)
			}
		}
		list = append(list, m)
	}
	return list
}

func sameDet(t *testing.T, m impl.Mat) bool {
	t.Helper()
	s := fineness(m.A)
	got, ok := impl.MatDet(m)
	sameDyTold(t, fmt.Sprintf("MatDet of %v", m), got, ok, leibniz(m.N, wholes(m.A, s)), -m.N*s)
	return ok
}

func TestMatDet(t *testing.T) {
	for _, m := range manyMats(901, 40) {
		sameDet(t, m)
	}
	told := 0
	for _, m := range farMats(902, 800) {
		if sameDet(t, m) {
			told++
		}
	}
	if told < 200 || told > 780 {
		t.Fatal("of 800 determinants are told:", told)
	}
}

func TestMatDetLiterals(t *testing.T) {
	rows := []struct {
		n    int
		list []int
		det  int
		rank int
	}{
		{1, []int{0}, 0, 0}, {1, []int{7}, 7, 1}, {1, []int{-12}, -12, 1}, {2, []int{0, 0, 0, 0}, 0, 0}, {2, []int{1, 2, 3, 4}, -2, 2}, {2, []int{0, 1, 1, 0}, -1, 2},
		{2, []int{1, 2, 2, 4}, 0, 1}, {2, []int{0, 0, 5, 0}, 0, 1}, {2, []int{3, 0, 0, -5}, -15, 2}, {3, []int{2, 0, 1, 1, 3, 0, 0, 1, 1}, 7, 3},
		{3, []int{1, 2, 3, 4, 5, 6, 7, 8, 9}, 0, 2}, {3, []int{0, 1, 0, 0, 0, 1, 1, 0, 0}, 1, 3}, {3, []int{0, 0, 1, 0, 1, 0, 1, 0, 0}, -1, 3}, {3, []int{1, 2, 3, 2, 4, 6, -1, -2, -3}, 0, 1},
		{3, []int{6, 1, 1, 4, -2, 5, 2, 8, 7}, -306, 3}, {4, []int{1, 2, 3, 4, 5, 6, 7, 8, 9, 10, 11, 12, 13, 14, 15, 16}, 0, 2}, {4, []int{0, 1, 0, 0, 1, 0, 0, 0, 0, 0, 0, 1, 0, 0, 1, 0}, 1, 4},
		{4, []int{0, 1, 0, 0, 0, 0, 1, 0, 0, 0, 0, 1, 1, 0, 0, 0}, -1, 4}, {4, []int{3, 2, 0, 1, 4, 0, 1, 2, 3, 0, 2, 1, 9, 2, 3, 1}, 24, 4}, {4, []int{0, 0, 0, 0, 0, 0, 0, 9, 0, 0, 0, 0, 0, 0, 0, 0}, 0, 1},
		{4, []int{1, 1, 1, 1, 1, 2, 4, 8, 1, 3, 9, 27, 1, 4, 16, 64}, 12, 4}, {4, []int{1, 0, 0, 0, 0, 1, 0, 0, 0, 0, 1, 0, 1, 1, 1, 0}, 0, 3},
	}
	for _, row := range rows {
		for _, e := range []int{0, 1, -1, 40, -700, 700} {
			m := matInts(row.n, e, row.list...)
			got, ok := impl.MatDet(m)
			sameDyTold(t, fmt.Sprint("MatDet of ", row.list, e), got, ok, big.NewInt(int64(row.det)), row.n*e)
			if rank := impl.MatRank(m); rank != row.rank {
				t.Fatal("MatRank of", row.list, e, "is", rank)
			}
		}
	}
}

func TestMatDetOfAProduct(t *testing.T) {
	mat, number := must[impl.Mat](t), must[impl.Dy](t)
	list := pairs(903, 30)
	first, second := allRanks(904, 3, 9), allRanks(905, 3, 9)
	for i, a := range first {
		list = append(list, [2]impl.Mat{a.m, second[i].m}, [2]impl.Mat{a.m, second[i^1].m})
	}
	noughts := 0
	for _, pair := range list {
		a, b := pair[0], pair[1]
		product := number(impl.DyMul(number(impl.MatDet(a)), number(impl.MatDet(b))))
		for _, ab := range []impl.Mat{mat(impl.MatMul(a, b)), mat(impl.MatMul(b, a))} {
			if !equalDys(number(impl.MatDet(ab)), product) {
				t.Fatal("the determinant of a product", a, b)
			}
		}
		if !equalDys(number(impl.MatDet(mat(impl.MatTurn(a)))), number(impl.MatDet(a))) {
			t.Fatal("the determinant of a matrix turned", a)
		}
		if equalDys(product, impl.Dy{}) {
			noughts++
		}
	}
	if noughts == 0 || noughts == len(list) {
		t.Fatal("of", len(list), "are 0:", noughts)
	}
}

// Two rows that change places change the sign, a row times a number the determinant by it; rows added to others change nothing.
func TestMatDetByRows(t *testing.T) {
	number := must[impl.Dy](t)
	for _, m := range manyMats(906, 12) {
		det := number(impl.MatDet(m))
		for i := range m.N {
			times := copyMat(m)
			for j := range m.N {
				times.A[i*m.N+j] = number(impl.DyMul(m.A[i*m.N+j], dyInt(-5, -3)))
			}
			if !equalDys(number(impl.MatDet(times)), number(impl.DyMul(det, dyInt(-5, -3)))) {
				t.Fatal("a row times a number", m, i)
			}
			for k := range m.N {
				if i == k {
					continue
				}
				swapped, added := copyMat(m), copyMat(m)
				for j := range m.N {
					swapped.A[i*m.N+j], swapped.A[k*m.N+j] = m.A[k*m.N+j], m.A[i*m.N+j]
					added.A[i*m.N+j] = number(impl.DyAdd(m.A[i*m.N+j], m.A[k*m.N+j]))
				}
				if !equalDys(number(impl.MatDet(swapped)), impl.DyNeg(det)) || !equalDys(number(impl.MatDet(added)), det) {
					t.Fatal("rows", m, i, k)
				}
			}
		}
	}
}

func sameAdj(t *testing.T, m impl.Mat) bool {
	t.Helper()
	s := fineness(m.A)
	list := wholes(m.A, s)
	var want []*big.Int
	for j := range m.N {
		for i := range m.N {
			det := leibniz(m.N-1, cutOut(m.N, list, i, j))
			if (i+j)%2 == 1 {
				det.Neg(det)
			}
			want = append(want, det)
		}
	}
	got, ok := impl.MatAdj(m)
	sameMatTold(t, fmt.Sprintf("MatAdj of %v", m), got, ok, m.N, want, -(m.N-1)*s)
	return ok
}

func TestMatAdj(t *testing.T) {
	mat, number := must[impl.Mat](t), must[impl.Dy](t)
	for _, m := range manyMats(907, 40) {
		sameAdj(t, m)
		adj := mat(impl.MatAdj(m))
		want := mat(impl.MatScale(mat(impl.MatId(m.N)), number(impl.MatDet(m))))
		mustEq(t, "a matrix times its adjugate", mat(impl.MatMul(m, adj)), want)
		mustEq(t, "an adjugate times its matrix", mat(impl.MatMul(adj, m)), want)
		mustEq(t, "an adjugate turned", mat(impl.MatTurn(adj)), mat(impl.MatAdj(mat(impl.MatTurn(m)))))
	}
	told := 0
	for _, m := range farMats(908, 600) {
		if sameAdj(t, m) {
			told++
		}
	}
	if told < 200 || told > 580 {
		t.Fatal("of 600 adjugates are told:", told)
	}
}

func TestMatAdjLiterals(t *testing.T) {
	rows := []struct {
		n         int
		list, adj []int
	}{
		{1, []int{0}, []int{1}}, {1, []int{5}, []int{1}}, {1, []int{-1}, []int{1}}, {2, []int{1, 2, 3, 4}, []int{4, -2, -3, 1}}, {2, []int{0, 0, 0, 0}, []int{0, 0, 0, 0}},
		{3, []int{1, 2, 3, 0, 1, 4, 5, 6, 0}, []int{-24, 18, 5, 20, -15, -4, -5, 4, 1}}, {3, []int{1, 2, 3, 4, 5, 6, 7, 8, 9}, []int{-3, 6, -3, 6, -12, 6, -3, 6, -3}},
		{3, []int{1, 1, 1, 1, 1, 1, 1, 1, 1}, make([]int, 9)}, {4, []int{0, 1, 0, 0, 0, 0, 1, 0, 0, 0, 0, 1, 0, 0, 0, 0}, []int{0, 0, 0, -1, 0, 0, 0, 0, 0, 0, 0, 0, 0, 0, 0, 0}},
		{4, []int{1, 0, 0, 0, 0, 2, 0, 0, 0, 0, 3, 0, 0, 0, 0, 4}, []int{24, 0, 0, 0, 0, 12, 0, 0, 0, 0, 8, 0, 0, 0, 0, 6}},
	}
	for _, row := range rows {
		for _, e := range []int{0, -1, 3, 900, -900} {
			got, ok := impl.MatAdj(matInts(row.n, e, row.list...))
			sameAsMat(t, fmt.Sprint("MatAdj of ", row.list, e), got, ok, matInts(row.n, (row.n-1)*e, row.adj...))
		}
	}
	// Of one number, whatever it is, the adjugate is one.
	for _, d := range manyDys() {
		got, ok := impl.MatAdj(matOf(1, d))
		sameAsMat(t, fmt.Sprint("MatAdj of ", d), got, ok, diagonal(1, dyInt(1, 0)))
	}
}

// sameRank asks for the rank by rows and by columns; it is full just if the determinant is not 0.
func sameRank(t *testing.T, m impl.Mat, want int) {
	t.Helper()
	if got := impl.MatRank(m); got != want || rankByRows(m) != want || rankByRows(turned(m)) != want {
		t.Fatalf("MatRank of %v is %d, not %d", m, got, want)
	}
	if got := impl.MatRank(turned(m)); got != want {
		t.Fatalf("MatRank of %v turned is %d, not %d", m, got, want)
	}
	isNought := leibniz(m.N, wholes(m.A, fineness(m.A))).Sign() == 0
	if isNought != (want < m.N) {
		t.Fatal("a full rank", m)
	}
	if det, ok := impl.MatDet(m); ok && equalDys(det, impl.Dy{}) != isNought {
		t.Fatal("a full rank", m, det)
	}
}

func TestMatRank(t *testing.T) {
	for _, r := range allRanks(909, 12, 9) {
		sameRank(t, r.m, r.rank)
	}
	for _, m := range append(ordinary(910, 25), farMats(911, 300)...) {
		sameRank(t, m, rankByRows(m))
	}
	for n := 1; n <= impl.MaxN; n++ {
		sameRank(t, noughts(n), 0)
		sameRank(t, ones(n), 1)
		sameRank(t, diagonal(n, dyInt(1, 0)), n)
		for place := range n * n {
			for _, d := range []impl.Dy{dyInt(1, 0), dyInt(-1, -3000), dyInt(1, 3000), dy(mostNat(), 3000)} {
				sameRank(t, with(noughts(n), place, d), 1)
			}
		}
	}
}

// Numbers on the way are very unlike in size: what is beyond all that may be told counts as what is near.
func TestMatRankOfUnlikeSizes(t *testing.T) {
	greater := 0
	for _, r := range allRanks(912, 6, 1400) {
		sameRank(t, r.m, r.rank)
		// A number that is off by little may make the rank greater by one, or less, or leave it.
		for place, d := range r.m.A {
			for _, little := range []impl.Dy{dyInt(1, -3000), dyInt(-1, -1500), {M: d.M, E: max(d.E-1500, -3000)}} {
				if off, ok := impl.DyAdd(d, little); ok && impl.DyOk(little) {
					near := with(r.m, place, off)
					rank := rankByRows(near)
					sameRank(t, near, rank)
					if rank > r.rank {
						greater++
					}
				}
			}
		}
	}
	if greater < 50 {
		t.Fatal("few ranks are made greater by little:", greater)
	}
	far, near := dyInt(1, 3000), dyInt(1, -3000)
	most, less := dy(mostNat(), 0), dy(plus(mostNat(), -2), 0)
	rows := []ranked{
		{matOf(2, far, far, far, far), 1}, {matOf(2, far, near, near, far), 2}, {matOf(2, far, near, far, near), 1}, {matOf(2, near, near, near, near), 1}, {matOf(2, near, near, near, impl.DyNeg(near)), 2},
		{matOf(2, far, dyInt(1, 0), dyInt(1, 0), near), 1}, {matOf(2, far, dyInt(1, 0), dyInt(1, 0), dyInt(3, -3000)), 2}, {matOf(2, most, most, most, less), 2}, {matOf(2, most, less, most, less), 1},
		{matOf(2, most, dyInt(1, 0), dyInt(1, 0), near), 2}, {matOf(2, dyInt(1, 0), dyInt(1, 0), dyInt(1, 0), dy(plus(two(1599), 1), -1599)), 2},
		{matOf(3, far, near, impl.Dy{}, near, impl.Dy{}, far, far, near, impl.Dy{}), 2}, {matOf(3, far, far, far, near, near, near, most, most, most), 1}, {matOf(3, far, far, far, near, near, near, most, most, less), 2},
		{matOf(3, impl.Dy{}, far, near, impl.DyNeg(far), impl.Dy{}, most, impl.DyNeg(near), impl.DyNeg(most), impl.Dy{}), 2},
		{with(diagonal(4, far), 15, near), 4}, {with(diagonal(4, near), 0, far), 4}, {with(diagonal(4, near), 0, impl.Dy{}), 3}, {with(diagonal(4, far), 5, impl.Dy{}), 3}, {with(with(diagonal(4, far), 5, impl.Dy{}), 10, impl.Dy{}), 2},
		{matOf(4, far, near, far, near, near, far, near, far, far, near, far, near, near, far, near, far), 2}, {with(matOf(4, slices.Repeat([]impl.Dy{far}, 16)...), 6, near), 2},
	}
	for _, row := range rows {
		sameRank(t, row.m, row.rank)
	}
}

func TestMatMinor(t *testing.T) {
	for _, m := range append(manyMats(913, 8), farMats(914, 60)...) {
		if m.N == 1 {
			continue
		}
		for i := range m.N {
			for j := range m.N {
				got, ok := impl.MatMinor(m, i, j)
				sameAsMat(t, fmt.Sprint("MatMinor ", i, j), got, ok, matOf(m.N-1, cutOut(m.N, m.A, i, j)...))
			}
		}
	}
	rows := []struct {
		n, i, j int
		want    []int
	}{
		{2, 0, 0, []int{22}}, {2, 0, 1, []int{21}}, {2, 1, 0, []int{12}}, {2, 1, 1, []int{11}}, {3, 0, 0, []int{22, 23, 32, 33}}, {3, 0, 1, []int{21, 23, 31, 33}}, {3, 1, 0, []int{12, 13, 32, 33}},
		{3, 2, 1, []int{11, 13, 21, 23}}, {3, 2, 2, []int{11, 12, 21, 22}}, {4, 0, 3, []int{21, 22, 23, 31, 32, 33, 41, 42, 43}}, {4, 3, 0, []int{12, 13, 14, 22, 23, 24, 32, 33, 34}},
		{4, 1, 2, []int{11, 12, 14, 31, 32, 34, 41, 42, 44}}, {4, 3, 3, []int{11, 12, 13, 21, 22, 23, 31, 32, 33}},
	}
	for _, row := range rows {
		var list []int
		for place := range row.n * row.n {
			list = append(list, 10*(place/row.n+1)+place%row.n+1)
		}
		got, ok := impl.MatMinor(matInts(row.n, 0, list...), row.i, row.j)
		sameAsMat(t, fmt.Sprint("MatMinor ", row), got, ok, matInts(row.n-1, 0, row.want...))
	}
}

// wantPoly goes by products and traces alone. Of the matrix times 2^s, the number i of the polynomial is 2^(s(n-i)) times that of the matrix.
func wantPoly(m impl.Mat, s int) []*big.Int {
	n, list := m.N, wholes(m.A, s)
	poly := make([]*big.Int, n+1)
	poly[n] = big.NewInt(1)
	power := slices.Repeat([]*big.Int{new(big.Int)}, n*n)
	for k := 1; k <= n; k++ {
		for i := range n {
			power[i*n+i] = new(big.Int).Add(power[i*n+i], poly[n-k+1])
		}
		power = timesBig(n, list, power)
		sum := new(big.Int)
		for i := range n {
			sum.Sub(sum, power[i*n+i])
		}
		poly[n-k] = sum.Quo(sum, big.NewInt(int64(k)))
	}
	return poly
}

func samePoly(t *testing.T, m impl.Mat) ([]impl.Dy, bool) {
	t.Helper()
	s := fineness(m.A)
	want := wantPoly(m, s)
	told := true
	for i, c := range want {
		told = told && dyTellable(c, -s*(m.N-i))
	}
	got, ok := impl.MatPoly(m)
	if ok != told || !ok && len(got) != 0 || ok && len(got) != m.N+1 {
		t.Fatalf("MatPoly of %v: %v, %t", m, got, ok)
	}
	for i, d := range got {
		sameDy(t, fmt.Sprintf("MatPoly of %v, number %d", m, i), d, want[i], -s*(m.N-i))
	}
	return got, ok
}

// polyByDeterminants asks for the determinant of x times one without m at more places than a polynomial of N can be wrong in.
func polyByDeterminants(t *testing.T, m impl.Mat, poly []impl.Dy) {
	t.Helper()
	s := fineness(m.A, poly)
	list, numbers := wholes(m.A, s), wholes(poly, s)
	for x := int64(-3); x <= 4; x++ {
		var rest []*big.Int
		for place, d := range list {
			d = minus(d)
			if place/m.N == place%m.N {
				d.Add(d, new(big.Int).Lsh(big.NewInt(x), uint(s)))
			}
			rest = append(rest, d)
		}
		sum := new(big.Int)
		for _, c := range slices.Backward(numbers) {
			sum.Add(sum.Mul(sum, big.NewInt(x)), c)
		}
		if sum.Lsh(sum, uint(s*(m.N-1))).Cmp(leibniz(m.N, rest)) != 0 {
			t.Fatalf("MatPoly of %v at %d", m, x)
		}
	}
}

func TestMatPoly(t *testing.T) {
	mat, number := must[impl.Mat](t), must[impl.Dy](t)
	for _, m := range manyMats(915, 30) {
		poly, ok := samePoly(t, m)
		if !ok {
			t.Fatal("refused", m)
		}
		polyByDeterminants(t, m, poly)
		first := number(impl.MatDet(m))
		if m.N%2 == 1 {
			first = impl.DyNeg(first)
		}
		if !equalDys(poly[m.N], dyInt(1, 0)) || !equalDys(poly[0], first) || !equalDys(poly[m.N-1], impl.DyNeg(number(impl.MatTrace(m)))) {
			t.Fatal(m, poly)
		}
		other, _ := impl.MatPoly(mat(impl.MatTurn(m)))
		if !slices.EqualFunc(other, poly, equalDys) {
			t.Fatal("turned", m, poly, other)
		}
		mustEq(t, "a matrix in its own polynomial", mat(impl.PolyAt(poly, m)), noughts(m.N))
	}
	told := 0
	for _, m := range farMats(916, 600) {
		if poly, ok := samePoly(t, m); ok {
			mustEq(t, "a far matrix in its own polynomial", mat(impl.PolyAt(poly, m)), noughts(m.N))
			told++
		}
	}
	if told < 200 || told > 580 {
		t.Fatal("of 600 polynomials are told:", told)
	}
}

func TestMatPolyLiterals(t *testing.T) {
	rows := []struct {
		n          int
		list, poly []int
	}{
		{1, []int{0}, []int{0, 1}}, {1, []int{-6}, []int{6, 1}}, {2, []int{1, 2, 3, 4}, []int{-2, -5, 1}}, {2, []int{0, -1, 1, 0}, []int{1, 0, 1}}, {2, make([]int, 4), []int{0, 0, 1}},
		{3, []int{1, 2, 3, 4, 5, 6, 7, 8, 9}, []int{0, -18, -15, 1}}, {3, []int{0, 1, 0, 0, 0, 1, 6, -11, 6}, []int{-6, 11, -6, 1}}, {3, []int{2, 0, 0, 0, 2, 0, 0, 0, 2}, []int{-8, 12, -6, 1}},
		{4, []int{0, 1, 0, 0, 0, 0, 1, 0, 0, 0, 0, 1, -7, 3, -5, 2}, []int{7, -3, 5, -2, 1}}, {4, []int{1, 0, 0, 0, 0, 2, 0, 0, 0, 0, 3, 0, 0, 0, 0, 4}, []int{24, -50, 35, -10, 1}},
		{4, []int{1, 1, 1, 1, 1, 1, 1, 1, 1, 1, 1, 1, 1, 1, 1, 1}, []int{0, 0, 0, -4, 1}}, {4, make([]int, 16), []int{0, 0, 0, 0, 1}},
	}
	for _, row := range rows {
		for _, e := range []int{0, 2, -1, 700, -700} {
			got, ok := impl.MatPoly(matInts(row.n, e, row.list...))
			if !ok || len(got) != row.n+1 {
				t.Fatal("MatPoly of", row.list, e, got, ok)
			}
			for i, d := range got {
				sameDy(t, fmt.Sprint("MatPoly of ", row.list, e, ", number ", i), d, big.NewInt(int64(row.poly[i])), (row.n-i)*e)
			}
		}
	}
}

// wantPolyAt is the sum of p's numbers times the powers of m, times 2^-e.
func wantPolyAt(p []impl.Dy, m impl.Mat) ([]*big.Int, int) {
	s := fineness(p, m.A)
	list, numbers := wholes(m.A, s), wholes(p, s)
	sum := slices.Repeat([]*big.Int{new(big.Int)}, m.N*m.N)
	power := wholes(diagonal(m.N, dyInt(1, 0)).A, 0)
	for i, c := range numbers {
		for place, x := range power {
			term := new(big.Int).Mul(c, x)
			term.Lsh(term, uint(s*(len(p)-1-i)))
			sum[place] = term.Add(term, sum[place])
		}
		power = timesBig(m.N, power, list)
	}
	return sum, -s * len(p)
}

func samePolyAt(t *testing.T, p []impl.Dy, m impl.Mat) bool {
	t.Helper()
	want, e := wantPolyAt(p, m)
	got, ok := impl.PolyAt(p, m)
	sameMatTold(t, fmt.Sprintf("PolyAt of %v and %v", p, m), got, ok, m.N, want, e)
	return ok
}

func TestPolyAt(t *testing.T) {
	source := rand.New(rand.NewSource(917))
	for i, m := range manyMats(918, 14) {
		for _, many := range []int{0, 1, 2, 3, 5, 11, 12, i % 13} {
			var p []impl.Dy
			for range many {
				p = append(p, someDy(source, 1+i%5, 30))
			}
			samePolyAt(t, p, m)
		}
	}
	told := 0
	numbers := manyDys()
	for i, m := range farMats(919, 240) {
		var p []impl.Dy
		for range i % 7 {
			p = append(p, numbers[source.Intn(len(numbers))])
		}
		if samePolyAt(t, p, m) {
			told++
		}
	}
	if told < 50 || told > 220 {
		t.Fatal("of 240 sums are told:", told)
	}
}

func TestPolyAtLiterals(t *testing.T) {
	mat := must[impl.Mat](t)
	for _, m := range append(manyMats(920, 4), farMats(921, 40)...) {
		mustEq(t, "nil", mat(impl.PolyAt(nil, m)), noughts(m.N))
		mustEq(t, "an empty list", mat(impl.PolyAt([]impl.Dy{}, m)), noughts(m.N))
		mustEq(t, "twelve noughts", mat(impl.PolyAt(make([]impl.Dy, 12), m)), noughts(m.N))
		mustEq(t, "the power of 1", mat(impl.PolyAt([]impl.Dy{{}, dyInt(1, 0)}, m)), m)
		for _, d := range []impl.Dy{{}, dyInt(1, 0), dyInt(-3, 7), dy(mostNat(), 3000), dyInt(1, -3000)} {
			mustEq(t, "one number", mat(impl.PolyAt([]impl.Dy{d}, m)), diagonal(m.N, d))
		}
	}
	ofInts := func(list ...int) []impl.Dy { return matInts(0, 0, list...).A }
	a := matInts(2, 0, 1, 2, 3, 4)
	mustEq(t, "two numbers", mat(impl.PolyAt(ofInts(5, -1), a)), matInts(2, 0, 4, -2, -3, 1))
	mustEq(t, "three numbers", mat(impl.PolyAt(ofInts(1, 2, 3), a)), matInts(2, 0, 24, 34, 51, 75))
	mustEq(t, "the power of 11", mat(impl.PolyAt(ofInts(0, 0, 0, 0, 0, 0, 0, 0, 0, 0, 0, 1), matInts(2, 0, 1, 1, 1, 0))), matInts(2, 0, 144, 89, 89, 55))
	mustEq(t, "twelve numbers", mat(impl.PolyAt(ofInts(1, 2, 3, 4, 5, 6, 7, 8, 9, 10, 11, 12), matInts(2, 0, 1, 1, 0, 1))), matInts(2, 0, 78, 572, 0, 78))
	mustEq(t, "twelve numbers at one", mat(impl.PolyAt(ofInts(1, -1, 1, -1, 1, -1, 1, -1, 1, -1, 1, -1), matInts(1, 0, -1))), matInts(1, 0, 12))
	mustEq(t, "of nought the first one alone", mat(impl.PolyAt(ofInts(9, 8, 7), noughts(3))), diagonal(3, dyInt(9, 0)))
}
