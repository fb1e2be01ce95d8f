package tests

import (
	"fmt"
	"math"
	"slices"
	"strings"
	"testing"

	"loop.example/g00382/impl"
)

// badMats has every way of not being MatOk: a wrong N, too few or too many numbers, one that is not DyOk in each place.
func badMats() []impl.Mat {
	list := []impl.Mat{{}, {A: []impl.Dy{}}, matOf(0), matOf(0, dyInt(1, 0)), matOf(-1, dyInt(1, 0)), matOf(-2, ones(2).A...), matOf(5, slices.Repeat([]impl.Dy{dyInt(1, 0)}, 25)...),
		matOf(5, ones(4).A...), matOf(math.MinInt), matOf(math.MaxInt, dyInt(1, 0)), matOf(1 << 32), matOf(1<<32+1, dyInt(1, 0)), matOf(1 << 62), matOf(-1<<32+1, dyInt(1, 0))}
	for n := 1; n <= impl.MaxN; n++ {
		more := append(ones(n).A, dyInt(1, 0))
		list = append(list, impl.Mat{N: n}, impl.Mat{N: n, A: []impl.Dy{}}, matOf(n), matOf(n, more...), matOf(n, more[:n*n-1]...), matOf(n, make([]impl.Dy, n*n+1)...), matOf(n+1, ones(n).A...), matOf(n-1, ones(n).A...))
		for place := range n * n {
			for i, bad := range badDys() {
				if (i+place)%n == 0 {
					list = append(list, with(ones(n), place, bad))
				}
			}
		}
	}
	return list
}

// matAnswers is what a function of this chapter answers, told alike for all of them.
type matAnswers struct {
	n   int
	dys []impl.Dy
	ok  bool
}

func (a matAnswers) String() string {
	return fmt.Sprint(a.n, len(a.dys), dyAnswers{dys: a.dys, ok: a.ok})
}

type matCall struct {
	name string
	// binary says that b matters, too.
	binary bool
	call   func(a impl.Mat, b impl.Mat) matAnswers
}

func matCalls() []matCall {
	yes := func(ok bool) matAnswers { return matAnswers{ok: ok} }
	one := func(d impl.Dy, ok bool) matAnswers { return matAnswers{dys: []impl.Dy{d}, ok: ok} }
	mat := func(m impl.Mat, ok bool) matAnswers { return matAnswers{n: m.N, dys: m.A, ok: ok} }
	list := []matCall{
		{"MatOk", false, func(a, b impl.Mat) matAnswers { return yes(impl.MatOk(a)) }},
		{"MatEq", true, func(a, b impl.Mat) matAnswers { return yes(impl.MatEq(a, b)) }},
		{"MatAdd", true, func(a, b impl.Mat) matAnswers { return mat(impl.MatAdd(a, b)) }},
		{"MatSub", true, func(a, b impl.Mat) matAnswers { return mat(impl.MatSub(a, b)) }},
		{"MatMul", true, func(a, b impl.Mat) matAnswers { return mat(impl.MatMul(a, b)) }},
		{"MatTurn", false, func(a, b impl.Mat) matAnswers { return mat(impl.MatTurn(a)) }},
		{"MatNorm", false, func(a, b impl.Mat) matAnswers { return one(impl.MatNorm(a)) }},
		{"MatTrace", false, func(a, b impl.Mat) matAnswers { return one(impl.MatTrace(a)) }},
	}
	for _, k := range []int{0, 1, 2, 5, 30} {
		list = append(list, matCall{"MatPow", false, func(a, b impl.Mat) matAnswers { return mat(impl.MatPow(a, k)) }})
	}
	for _, d := range []impl.Dy{{}, dyInt(1, 0), dyInt(-3, 40), dyInt(65537, -3)} {
		list = append(list, matCall{"MatScale", false, func(a, b impl.Mat) matAnswers { return mat(impl.MatScale(a, d)) }})
	}
	for i, low := range []int{-impl.MaxE, -40, -1, 0, 3, impl.MaxE} {
		mode := i % 5
		list = append(list, matCall{"MatRound", false, func(a, b impl.Mat) matAnswers { return mat(impl.MatRound(a, low, mode)) }})
	}
	for _, place := range [][2]int{{0, 0}, {0, 1}, {1, 0}, {3, 3}} {
		list = append(list, matCall{"MatAt", false, func(a, b impl.Mat) matAnswers { return one(impl.MatAt(a, place[0], place[1])) }})
	}
	return list
}

// matRefusal is what a call answers where an argument is not MatOk.
func matRefusal(name string) string {
	switch name {
	case "MatNorm", "MatTrace", "MatAt":
		return matAnswers{dys: make([]impl.Dy, 1)}.String()
	}
	return matAnswers{}.String()
}

func TestMatWrongMatrices(t *testing.T) {
	for _, c := range matCalls() {
		zero := matRefusal(c.name)
		for _, bad := range badMats() {
			others := []impl.Mat{bad}
			if c.binary {
				n := min(max(bad.N, 1), impl.MaxN)
				others = append(others, ones(n), noughts(n), ones(1), impl.Mat{})
			}
			for _, other := range others {
				if got := c.call(bad, other).String(); got != zero {
					t.Fatalf("%s of %v, %v is %s", c.name, bad, other, got)
				}
				if got := c.call(other, bad).String(); got != zero {
					t.Fatalf("%s of %v, %v is %s", c.name, other, bad, got)
				}
			}
		}
	}
}

// Each way of being no number, in each place, in the first and in the second argument.
func TestMatWrongNumbersInEachPlace(t *testing.T) {
	for n := 1; n <= impl.MaxN; n++ {
		for place := range n * n {
			for _, bad := range badDys() {
				m := with(ones(n), place, bad)
				if impl.MatOk(m) || impl.MatEq(m, m) {
					t.Fatal(m)
				}
				for _, call := range []func(a impl.Mat, b impl.Mat) (impl.Mat, bool){impl.MatAdd, impl.MatSub, impl.MatMul} {
					got, ok := call(m, ones(n))
					refusedMat(t, "a wrong first one", got, ok)
					got, ok = call(noughts(n), m)
					refusedMat(t, "a wrong second one", got, ok)
				}
				for i := range n {
					got, ok := impl.MatAt(m, i, n-1-i)
					refusedDy(t, "MatAt", got, ok)
				}
				got, ok := impl.MatPow(m, 0)
				refusedMat(t, "MatPow", got, ok)
				got, ok = impl.MatScale(m, impl.Dy{})
				refusedMat(t, "MatScale", got, ok)
				got, ok = impl.MatTurn(m)
				refusedMat(t, "MatTurn", got, ok)
				d, ok := impl.MatNorm(m)
				refusedDy(t, "MatNorm", d, ok)
				d, ok = impl.MatTrace(m)
				refusedDy(t, "MatTrace", d, ok)
			}
		}
	}
}

func TestMatWrongFactor(t *testing.T) {
	for n := 1; n <= impl.MaxN; n++ {
		for _, m := range []impl.Mat{noughts(n), ones(n), matOf(n, dyInt(1, 0))} {
			for _, bad := range badDys() {
				got, ok := impl.MatScale(m, bad)
				refusedMat(t, fmt.Sprint("MatScale by ", bad), got, ok)
			}
		}
	}
}

func TestMatUnlikeN(t *testing.T) {
	for n := 1; n <= impl.MaxN; n++ {
		for k := 1; k <= impl.MaxN; k++ {
			for _, a := range []impl.Mat{noughts(n), ones(n), diagonal(n, dyInt(-3, 1))} {
				for _, b := range []impl.Mat{noughts(k), ones(k), diagonal(k, dyInt(5, -1))} {
					for _, call := range []func(a impl.Mat, b impl.Mat) (impl.Mat, bool){impl.MatAdd, impl.MatSub, impl.MatMul} {
						got, ok := call(a, b)
						if n != k {
							refusedMat(t, fmt.Sprint(n, " and ", k), got, ok)
						} else if !ok {
							t.Fatal(n, k)
						}
					}
					if n != k && impl.MatEq(a, b) {
						t.Fatal(n, k)
					}
				}
			}
		}
	}
}

// written tells all of a matrix, what lies behind the lengths of its lists, too.
func written(m impl.Mat) string {
	var parts []string
	for _, d := range m.A[:cap(m.A)] {
		parts = append(parts, fmt.Sprint(d.M.Neg, d.E, len(d.M.A.L), d.M.A.L[:cap(d.M.A.L)]))
	}
	return fmt.Sprint(m.N, len(m.A), strings.Join(parts, " "))
}

// memoryMats has numbers of many lengths, some that share one list, and some matrices that are not MatOk.
func memoryMats(n int) []impl.Mat {
	long, one := dy(plus(two(300), 1), -20), dyInt(1, 0)
	numbers := []impl.Dy{dyInt(3, 0), dyInt(-65537, 2), {}, long, dyInt(1, -7), impl.DyNeg(long), dyInt(40, 0), {M: impl.Whole{A: roomyNat()}}, dyInt(-1, 11)}
	var mixed, round []impl.Dy
	for i := range n * n {
		mixed = append(mixed, numbers[(2*i+n)%len(numbers)])
		round = append(round, numbers[(5*i+1)%len(numbers)])
	}
	list := []impl.Mat{noughts(n), ones(n), diagonal(n, one), diagonal(n, long), matOf(n, mixed...), matOf(n, round...), matOf(n, slices.Repeat([]impl.Dy{long}, n*n)...), diagonal(n, dy(mostNat(), 5))}
	return append(list, matOf(n, mixed[1:]...), with(ones(n), n-1, impl.Dy{M: impl.Whole{A: roomyNat(2)}}), with(ones(n), 0, impl.Dy{M: impl.Whole{A: roomyNat(5, 0)}}))
}

// overwrite writes over all of an answer, what lies behind its lengths, too.
func overwrite(a matAnswers) {
	full := a.dys[:cap(a.dys)]
	scribbleDys(dyAnswers{dys: full})
	for i := range full {
		full[i] = dyInt(12345, 6)
	}
}

// numbersApart writes over one number after the other, and asks for all others.
func numbersApart(t *testing.T, name string, a matAnswers) {
	t.Helper()
	for i := range a.dys {
		var others []impl.Nat
		for j, d := range a.dys {
			if i != j {
				others = append(others, d.M.A)
			}
		}
		was := copiesOf(others)
		scribbleDys(dyAnswers{dys: a.dys[i : i+1]})
		sameAllLists(t, name+" shares memory between its numbers, and", others, was)
	}
}

// sameMemory calls three times: nothing is written into an argument, nothing handed out twice, nothing kept.
func sameMemory(t *testing.T, c matCall, a impl.Mat, b impl.Mat) {
	t.Helper()
	was := written(a) + written(b)
	asked := func(what string) {
		t.Helper()
		if written(a)+written(b) != was {
			t.Fatalf("%s %s: %s", c.name, what, written(a)+written(b))
		}
	}
	first, second := c.call(a, b), c.call(a, b)
	asked("wrote into an argument")
	told := first.String()
	overwrite(first)
	asked("shares memory with an argument")
	if second.String() != told {
		t.Fatalf("%s hands out what it keeps", c.name)
	}
	third := c.call(a, b)
	if third.String() != told {
		t.Fatalf("%s keeps something", c.name)
	}
	numbersApart(t, c.name, third)
	asked("shares memory with an argument")
}

func TestMatMemory(t *testing.T) {
	for n := 1; n <= impl.MaxN; n++ {
		list := memoryMats(n)
		for _, c := range matCalls() {
			for i, a := range list {
				for j, b := range list {
					if c.binary || i == j {
						sameMemory(t, c, a, b)
					}
				}
			}
		}
	}
}

// Where the answer's numbers are just those of an argument, they are told anew all the same.
func TestMatMemoryOfTheSameNumbers(t *testing.T) {
	one := dyInt(1, 0)
	mat := func(m impl.Mat, ok bool) matAnswers { return matAnswers{n: m.N, dys: m.A, ok: ok} }
	for n := 1; n <= impl.MaxN; n++ {
		nought, id := noughts(n), diagonal(n, one)
		calls := []matCall{
			{"MatPow with 1", false, func(a, b impl.Mat) matAnswers { return mat(impl.MatPow(a, 1)) }},
			{"MatScale by one", false, func(a, b impl.Mat) matAnswers { return mat(impl.MatScale(a, one)) }},
			{"MatRound of multiples", false, func(a, b impl.Mat) matAnswers { return mat(impl.MatRound(a, -100, impl.RdDown)) }},
			{"a sum with nought", false, func(a, b impl.Mat) matAnswers { return mat(impl.MatAdd(a, nought)) }},
			{"a sum of nought", false, func(a, b impl.Mat) matAnswers { return mat(impl.MatAdd(nought, a)) }},
			{"without nought", false, func(a, b impl.Mat) matAnswers { return mat(impl.MatSub(a, nought)) }},
			{"times one", false, func(a, b impl.Mat) matAnswers { return mat(impl.MatMul(a, id)) }},
			{"one times it", false, func(a, b impl.Mat) matAnswers { return mat(impl.MatMul(id, a)) }},
			{"turned twice", false, func(a, b impl.Mat) matAnswers {
				turned, _ := impl.MatTurn(a)
				return mat(impl.MatTurn(turned))
			}},
		}
		for _, c := range calls {
			for _, a := range memoryMats(n) {
				if !impl.MatOk(a) {
					continue
				}
				if got := c.call(a, a); got.String() != mat(a, true).String() {
					t.Fatalf("%s of %v is %s", c.name, a, got)
				}
				sameMemory(t, c, a, a)
			}
		}
		for i := range n * n {
			c := matCall{"MatAt", false, func(a, b impl.Mat) matAnswers {
				d, ok := impl.MatAt(a, i/n, i%n)
				return matAnswers{dys: []impl.Dy{d}, ok: ok}
			}}
			for _, a := range memoryMats(n) {
				sameMemory(t, c, a, a)
			}
		}
	}
}

func TestMatIdMemory(t *testing.T) {
	for n := -1; n <= impl.MaxN+1; n++ {
		c := matCall{"MatId", false, func(a, b impl.Mat) matAnswers {
			m, ok := impl.MatId(n)
			return matAnswers{n: m.N, dys: m.A, ok: ok}
		}}
		sameMemory(t, c, impl.Mat{}, impl.Mat{})
	}
}

// The factor of MatScale is an argument, too.
func TestMatScaleMemory(t *testing.T) {
	for _, d := range []impl.Dy{dyInt(1, 0), dyInt(-1, 0), dyInt(65537, -3), dy(plus(two(300), 1), -20), {M: impl.Whole{A: roomyNat()}}, {M: impl.Whole{A: roomyNat(2)}}} {
		for n := 1; n <= impl.MaxN; n++ {
			holder := matOf(1, d)
			was := written(holder)
			for _, m := range []impl.Mat{noughts(n), ones(n), diagonal(n, d), matOf(n, slices.Repeat([]impl.Dy{d}, n*n)...)} {
				got, ok := impl.MatScale(m, d)
				overwrite(matAnswers{n: got.N, dys: got.A, ok: ok})
				if written(holder) != was {
					t.Fatal("MatScale shares memory with its factor, or writes into it", d)
				}
			}
		}
	}
}

// One list may be handed in as both matrices, whole or lying across each other, and one list of limbs as all numbers.
func TestMatArgumentsThatShare(t *testing.T) {
	limbs := []int{65535, 7, 65535, 1, 9}
	var all []impl.Dy
	for i := range 24 {
		all = append(all, impl.Dy{M: impl.Whole{Neg: i%3 == 0, A: impl.Nat{L: limbs[:1+i%4]}}, E: 5*i%7 - 3})
	}
	whole := impl.Mat{N: 1, A: all}
	was := written(whole)
	for n := 1; n <= impl.MaxN; n++ {
		for _, c := range matCalls() {
			for from := range 4 {
				a, b := impl.Mat{N: n, A: all[:n*n]}, impl.Mat{N: n, A: all[from : from+n*n]}
				want := c.call(copyMat(a), copyMat(b)).String()
				got := c.call(a, b)
				if got.String() != want {
					t.Fatalf("%s of lists that share: %s, not %s", c.name, got, want)
				}
				numbersApart(t, c.name, got)
				if written(whole) != was {
					t.Fatal(c.name, "wrote into its arguments")
				}
			}
		}
	}
}

// What lies behind a list's length would make another matrix of it, or none.
func TestMatBehindTheLength(t *testing.T) {
	all := []impl.Dy{dyInt(1, 0), dyInt(2, 0), dyInt(3, 0), dyInt(4, 0), {E: 9}, dyInt(6, 0), dyInt(7, 0), dyInt(8, 0), dyInt(9, 0)}
	limbs := []int{3, 0, 0, 7}
	all[0].M.A.L = limbs[:1]
	m := impl.Mat{N: 2, A: all[:4]}
	was := written(m)
	got, ok := impl.MatMul(m, m)
	sameAsMat(t, "MatMul", got, ok, matInts(2, 0, 15, 14, 21, 22))
	got, ok = impl.MatTurn(m)
	sameAsMat(t, "MatTurn", got, ok, matInts(2, 0, 3, 3, 2, 4))
	for _, short := range []impl.Mat{{N: 3, A: all[:4]}, {N: 2, A: all[:3]}, {N: 3, A: all[:8]}, {N: 1, A: all[:0]}} {
		if impl.MatOk(short) || impl.MatEq(short, short) {
			t.Fatal(short)
		}
		got, ok = impl.MatTurn(short)
		refusedMat(t, "MatTurn", got, ok)
	}
	if written(m) != was || !slices.Equal(limbs, []int{3, 0, 0, 7}) {
		t.Fatal(written(m))
	}
}
