package tests

import (
	"fmt"
	"slices"
	"testing"

	"loop.example/g00382/impl"
)

// flat has both ends of each interval.
func flat(list []impl.Iv) []impl.Dy {
	var dys []impl.Dy
	for _, v := range list {
		dys = append(dys, v.Lo, v.Hi)
	}
	return dys
}

// firstOf has the first n numbers of a list, or all of them; behind them is what the list has more.
func firstOf(list []impl.Dy, n int) []impl.Dy { return list[:min(max(n, 0), len(list))] }

// exactCalls has the functions of the chapter; where they take a list beside the matrix, it comes from b's numbers.
func exactCalls() []matCall {
	mat := func(m impl.Mat, ok bool) matAnswers { return matAnswers{n: m.N, dys: m.A, ok: ok} }
	list := []matCall{
		{"MatDet", false, func(a, b impl.Mat) matAnswers {
			d, ok := impl.MatDet(a)
			return matAnswers{dys: []impl.Dy{d}, ok: ok}
		}},
		{"MatRank", false, func(a, b impl.Mat) matAnswers { return matAnswers{n: impl.MatRank(a)} }},
		{"MatAdj", false, func(a, b impl.Mat) matAnswers { return mat(impl.MatAdj(a)) }},
		{"MatPoly", false, func(a, b impl.Mat) matAnswers {
			p, ok := impl.MatPoly(a)
			return matAnswers{dys: p, ok: ok}
		}},
		{"MatMinor", false, func(a, b impl.Mat) matAnswers { return mat(impl.MatMinor(a, 0, 0)) }},
		{"MatMinor", false, func(a, b impl.Mat) matAnswers { return mat(impl.MatMinor(a, a.N-1, 0)) }},
		{"MatMinor", false, func(a, b impl.Mat) matAnswers { return mat(impl.MatMinor(a, 1, a.N-1)) }},
	}
	for _, many := range []int{0, 1, 2, 4, 12} {
		list = append(list, matCall{"PolyAt", true, func(a, b impl.Mat) matAnswers { return mat(impl.PolyAt(firstOf(b.A, many), a)) }})
	}
	for _, low := range []int{-200, -3, 0, 200} {
		list = append(list,
			matCall{"Solve", true, func(a, b impl.Mat) matAnswers {
				x, ok := impl.Solve(a, firstOf(b.A, a.N), low)
				return matAnswers{n: len(x), dys: flat(x), ok: ok}
			}},
			matCall{"Inverse", false, func(a, b impl.Mat) matAnswers {
				m, _, ok := impl.Inverse(a, low)
				return mat(m, ok)
			}},
			matCall{"Inverse and its distance", false, func(a, b impl.Mat) matAnswers {
				m, far, ok := impl.Inverse(a, low)
				return matAnswers{n: m.N, dys: append(slices.Clone(m.A), far), ok: ok}
			}})
	}
	return list
}

// exactRefusal is what a call answers where an argument is not as it must be.
func exactRefusal(name string) string {
	switch name {
	case "MatDet", "Inverse and its distance":
		return matAnswers{dys: make([]impl.Dy, 1)}.String()
	}
	return matAnswers{}.String()
}

func TestExactWrongMatrices(t *testing.T) {
	for _, c := range exactCalls() {
		zero := exactRefusal(c.name)
		for _, bad := range badMats() {
			for _, other := range []impl.Mat{ones(4), noughts(1), {}, bad} {
				if got := c.call(bad, other).String(); got != zero {
					t.Fatalf("%s of %v, %v is %s", c.name, bad, other, got)
				}
			}
		}
	}
}

// Each way of being no number, in each place of the matrix.
func TestExactWrongNumbersInEachPlace(t *testing.T) {
	for n := 1; n <= impl.MaxN; n++ {
		for place := range n * n {
			for i, bad := range badDys() {
				good := []impl.Mat{noughts(n), diagonal(n, dyInt(3, 0))}[i%2]
				m := with(good, place, bad)
				for _, c := range exactCalls() {
					if got := c.call(m, ones(4)).String(); got != exactRefusal(c.name) {
						t.Fatalf("%s of %v is %s", c.name, m, got)
					}
				}
				// The minor that leaves the wrong number out is refused, too.
				got, ok := impl.MatMinor(m, place/n, place%n)
				refusedMat(t, "MatMinor", got, ok)
			}
		}
	}
}

func TestExactWrongLists(t *testing.T) {
	for n := 1; n <= impl.MaxN; n++ {
		one := diagonal(n, dyInt(1, 0))
		for _, bad := range badDys() {
			for place := range 12 {
				for _, many := range []int{place + 1, 12} {
					p := slices.Repeat([]impl.Dy{dyInt(1, 0)}, many)
					p[place] = bad
					for _, m := range []impl.Mat{one, noughts(n)} {
						got, ok := impl.PolyAt(p, m)
						refusedMat(t, fmt.Sprint("PolyAt with ", bad), got, ok)
					}
				}
			}
			for place := range n {
				b := slices.Repeat([]impl.Dy{dyInt(1, 0)}, n)
				b[place] = bad
				got, ok := impl.Solve(one, b, 0)
				refusedSolution(t, fmt.Sprint("Solve with ", bad), got, ok)
				got, ok = impl.Solve(one, append(b, dyInt(1, 0)), 0)
				refusedSolution(t, fmt.Sprint("Solve with ", bad), got, ok)
			}
		}
	}
}

func TestExactMemory(t *testing.T) {
	for n := 1; n <= impl.MaxN; n++ {
		list := memoryMats(n)
		others := slices.Concat(memoryMats(4)[:7], memoryMats(n), memoryMats(3)[4:6])
		for _, c := range exactCalls() {
			for _, a := range list {
				if !c.binary {
					sameMemory(t, c, a, a)
					continue
				}
				for _, b := range others {
					sameMemory(t, c, a, b)
				}
			}
		}
	}
}

// Where the answer's numbers are just those of an argument, or one number comes twice, they are told anew all the same.
func TestExactMemoryOfTheSameNumbers(t *testing.T) {
	long, one := dy(plus(two(300), 1), -20), dyInt(1, 0)
	mat := func(m impl.Mat, ok bool) matAnswers { return matAnswers{n: m.N, dys: m.A, ok: ok} }
	for n := 1; n <= impl.MaxN; n++ {
		minor := matCall{"MatMinor", false, func(a, b impl.Mat) matAnswers { return mat(impl.MatMinor(a, n-1, 0)) }}
		alike := matOf(n, slices.Repeat([]impl.Dy{long}, n*n)...)
		sameMemory(t, minor, alike, alike)
		poly := matCall{"PolyAt with one number", true, func(a, b impl.Mat) matAnswers { return mat(impl.PolyAt(b.A[:1], a)) }}
		sameMemory(t, poly, alike, matOf(1, long))
		itself := matCall{"PolyAt of the matrix itself", true, func(a, b impl.Mat) matAnswers { return mat(impl.PolyAt(b.A[:2], a)) }}
		sameMemory(t, itself, alike, matOf(1, impl.Dy{}, one))
		if got := itself.call(alike, matOf(1, impl.Dy{}, one)); got.String() != mat(alike, true).String() {
			t.Fatal(got)
		}
		// Of one the solution is b, the inverse one, the determinant one.
		id := diagonal(n, one)
		solve := matCall{"Solve with one", true, func(a, b impl.Mat) matAnswers {
			x, ok := impl.Solve(a, b.A[:n], -20)
			return matAnswers{n: len(x), dys: flat(x), ok: ok}
		}}
		b := matOf(1, slices.Repeat([]impl.Dy{long}, n)...)
		sameMemory(t, solve, id, b)
		if got := solve.call(id, b); got.String() != (matAnswers{n: n, dys: slices.Repeat([]impl.Dy{long}, 2*n), ok: true}).String() {
			t.Fatal(got)
		}
		for _, c := range exactCalls() {
			sameMemory(t, c, id, matOf(4, slices.Repeat([]impl.Dy{long}, 16)...))
			sameMemory(t, c, diagonal(n, dyInt(-1, 0)), alike)
		}
	}
	// Of one number, MatDet is the number itself; MatPoly of two has a trace and a determinant that are alike.
	for _, a := range []impl.Mat{matOf(1, long), matInts(2, 0, 2, 0, 0, 2), matInts(2, 0, 3, 3, 1, 2), matInts(2, 300, 1, 0, 0, 1)} {
		for _, c := range exactCalls() {
			sameMemory(t, c, a, a)
		}
	}
}

// One list may be handed in as the matrix and as what comes beside it, and one list of limbs as all numbers.
func TestExactArgumentsThatShare(t *testing.T) {
	limbs := []int{65535, 7, 65535, 1, 9}
	var all []impl.Dy
	for i := range 24 {
		all = append(all, impl.Dy{M: impl.Whole{Neg: i%3 == 0, A: impl.Nat{L: limbs[:1+i%4]}}, E: 5*i%7 - 3})
	}
	holder := impl.Mat{N: 1, A: all}
	was := written(holder)
	for n := 1; n <= impl.MaxN; n++ {
		for _, c := range exactCalls() {
			for from := range 4 {
				a, b := impl.Mat{N: n, A: all[:n*n]}, impl.Mat{N: n, A: all[from : from+n*n]}
				want := c.call(copyMat(a), copyMat(b)).String()
				got := c.call(a, b)
				if got.String() != want {
					t.Fatalf("%s of lists that share: %s, not %s", c.name, got, want)
				}
				numbersApart(t, c.name, got)
				if written(holder) != was {
					t.Fatal(c.name, "wrote into its arguments")
				}
			}
		}
	}
}

// The same answer comes at a second call, whatever was asked in between.
func TestExactKeepsNothing(t *testing.T) {
	var list []impl.Mat
	for n := 1; n <= impl.MaxN; n++ {
		list = append(list, diagonal(n, dyInt(3, 0)), ones(n), noughts(n))
	}
	list = append(list, ordinary(941, 3)...)
	for _, c := range exactCalls() {
		var first []string
		for _, a := range list {
			first = append(first, c.call(a, ones(4)).String())
		}
		for i, a := range slices.Backward(list) {
			for _, other := range exactCalls() {
				other.call(list[(i+5)%len(list)], noughts(4))
			}
			if got := c.call(a, ones(4)).String(); got != first[i] {
				t.Fatalf("%s of %v: %s, and before %s", c.name, a, got, first[i])
			}
		}
	}
}

// What lies behind a list's length would make another matrix, polynomial or right side of it, or none.
func TestExactBehindTheLength(t *testing.T) {
	all := []impl.Dy{dyInt(1, 0), dyInt(2, 0), dyInt(3, 0), dyInt(4, 0), {E: 9}, dyInt(6, 0), dyInt(7, 0), dyInt(8, 0), dyInt(9, 0)}
	limbs := []int{3, 0, 0, 7}
	all[0].M.A.L = limbs[:1]
	m := impl.Mat{N: 2, A: all[:4]}
	was := written(m)
	det, ok := impl.MatDet(m)
	sameDyTold(t, "MatDet", det, ok, scaled(dyInt(6, 0)), -impl.MaxE)
	got, ok := impl.MatAdj(m)
	sameAsMat(t, "MatAdj", got, ok, matInts(2, 0, 4, -2, -3, 3))
	got, ok = impl.PolyAt(all[:2], m)
	sameAsMat(t, "PolyAt", got, ok, matInts(2, 0, 9, 4, 6, 11))
	got, ok = impl.PolyAt(all[:0], m)
	sameAsMat(t, "PolyAt of nothing", got, ok, noughts(2))
	x, ok := impl.Solve(m, all[:2], 0)
	if !ok || len(x) != 2 {
		t.Fatal(x, ok)
	}
	sameAsIv(t, "Solve", x[0], ok, ivInt(1, 2, 0))
	sameAsIv(t, "Solve", x[1], ok, ivInt(-1, 0, 0))
	x, ok = impl.Solve(m, all[:1], 0)
	refusedSolution(t, "Solve with too few", x, ok)
	x, ok = impl.Solve(m, all[:3], 0)
	refusedSolution(t, "Solve with too many", x, ok)
	for _, short := range []impl.Mat{{N: 3, A: all[:4]}, {N: 2, A: all[:3]}, {N: 3, A: all[:8]}, {N: 1, A: all[:0]}} {
		for _, c := range exactCalls() {
			if got := c.call(short, ones(4)).String(); got != exactRefusal(c.name) {
				t.Fatalf("%s of %v is %s", c.name, short, got)
			}
		}
	}
	if written(m) != was || !slices.Equal(limbs, []int{3, 0, 0, 7}) {
		t.Fatal(written(m))
	}
}
