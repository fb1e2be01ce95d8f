package tests

import (
	"fmt"
	"slices"
	"testing"

	"loop.example/g00382/impl"
)

// funcCalls has the functions of the chapter that take matrices, or a number, which is a's first one then.
func funcCalls() []matCall {
	list := []matCall{{"Residual", true, func(a, b impl.Mat) matAnswers {
		d, ok := impl.Residual(a, b)
		return matAnswers{dys: []impl.Dy{d}, ok: ok}
	}}}
	for _, low := range []int{0, -20, -120} {
		list = append(list,
			matCall{"ExpHold", false, func(a, b impl.Mat) matAnswers {
				v, ok := impl.ExpHold(a, low)
				return matAnswers{n: v.N, dys: flat(v.A), ok: ok}
			}},
			matCall{"ExpMat", false, func(a, b impl.Mat) matAnswers {
				m, _, ok := impl.ExpMat(a, low)
				return matAnswers{n: m.N, dys: m.A, ok: ok}
			}},
			matCall{"ExpMat and how far", false, func(a, b impl.Mat) matAnswers {
				m, far, ok := impl.ExpMat(a, low)
				return matAnswers{n: m.N, dys: append(slices.Clone(m.A), far), ok: ok}
			}})
		for _, steps := range []int{0, 1, 12} {
			list = append(list,
				matCall{"RootMat", false, func(a, b impl.Mat) matAnswers {
					m, _, ok := impl.RootMat(a, low, steps)
					return matAnswers{n: m.N, dys: m.A, ok: ok}
				}},
				matCall{"RootMat and how far", false, func(a, b impl.Mat) matAnswers {
					m, far, ok := impl.RootMat(a, low, steps)
					return matAnswers{n: m.N, dys: append(slices.Clone(m.A), far), ok: ok}
				}})
		}
	}
	return list
}

func expNumCall(low int) matCall {
	return matCall{"ExpNum", false, func(a, b impl.Mat) matAnswers {
		v, ok := impl.ExpNum(a.A[0], low)
		return matAnswers{dys: []impl.Dy{v.Lo, v.Hi}, ok: ok}
	}}
}

// funcRefusal is what a call answers where an argument is not as it must be.
func funcRefusal(name string) string {
	switch name {
	case "Residual", "ExpMat and how far", "RootMat and how far":
		return matAnswers{dys: make([]impl.Dy, 1)}.String()
	case "ExpNum":
		return matAnswers{dys: make([]impl.Dy, 2)}.String()
	}
	return matAnswers{}.String()
}

func TestFuncWrongMatrices(t *testing.T) {
	for _, c := range funcCalls() {
		zero := funcRefusal(c.name)
		for _, bad := range badMats() {
			n := min(max(bad.N, 1), impl.MaxN)
			for _, other := range []impl.Mat{ones(n), noughts(n), ones(1), {}, bad} {
				if got := c.call(bad, other).String(); got != zero {
					t.Fatalf("%s of %v, %v is %s", c.name, bad, other, got)
				}
				if !c.binary {
					break
				}
				if got := c.call(other, bad).String(); got != zero {
					t.Fatalf("%s of %v, %v is %s", c.name, other, bad, got)
				}
			}
		}
	}
}

// Each way of being no number, in each place, of the first and of the second matrix.
func TestFuncWrongNumbersInEachPlace(t *testing.T) {
	for i, bad := range badDys() {
		eachPlace(func(n int, place int) {
			good := []impl.Mat{noughts(n), diagonal(n, dyInt(3, 0))}[i%2]
			m := with(good, place, bad)
			for j, c := range funcCalls() {
				if (i+j+place)%3 != 0 && !c.binary {
					continue
				}
				if got := c.call(m, good).String(); got != funcRefusal(c.name) {
					t.Fatalf("%s of %v is %s", c.name, m, got)
				}
				if !c.binary {
					continue
				}
				if got := c.call(good, m).String(); got != funcRefusal(c.name) {
					t.Fatalf("%s of %v and %v is %s", c.name, good, m, got)
				}
			}
		})
		for _, low := range []int{0, -20, -120} {
			if got := expNumCall(low).call(matOf(1, bad), impl.Mat{}).String(); got != funcRefusal("ExpNum") {
				t.Fatalf("ExpNum of %v is %s", bad, got)
			}
		}
	}
}

func TestFuncMemory(t *testing.T) {
	for n := 1; n <= impl.MaxN; n++ {
		list := memoryMats(n)
		// These have a norm that is taken, and one of them numbers that share one list of limbs.
		long := dy(plus(two(300), 1), -300)
		list = append(list, diagonal(n, long), matOf(n, slices.Repeat([]impl.Dy{long}, n*n)...), diagonal(n, dyInt(65537, -13)), with(diagonal(n, dyInt(4, 0)), n-1, dyInt(9, 0)))
		for _, c := range funcCalls() {
			for i, a := range list {
				for j, b := range list {
					if c.binary || i == j {
						sameMemory(t, c, a, b)
					}
				}
			}
		}
	}
	for _, d := range []impl.Dy{{}, dyInt(1, 0), dyInt(-64, 0), dy(plus(two(300), 1), -300), {M: impl.Whole{A: roomyNat()}}, {M: impl.Whole{A: roomyNat(2)}}, dyInt(65, 0)} {
		for _, low := range []int{0, -20, -120, 1} {
			sameMemory(t, expNumCall(low), matOf(1, d), impl.Mat{})
		}
	}
}

// Where the answer's numbers are just those of an argument, or one number comes twice, they are told anew all the same.
func TestFuncMemoryOfTheSameNumbers(t *testing.T) {
	one := dyInt(1, 0)
	long := dy(plus(two(100), 1), -100)
	root := func(low int, steps int) matCall {
		return matCall{"RootMat", false, func(a, b impl.Mat) matAnswers {
			m, _, ok := impl.RootMat(a, low, steps)
			return matAnswers{n: m.N, dys: m.A, ok: ok}
		}}
	}
	for n := 1; n <= impl.MaxN; n++ {
		for _, a := range []impl.Mat{noughts(n), diagonal(n, one), diagonal(n, long), matOf(n, slices.Repeat([]impl.Dy{long}, n*n)...), with(diagonal(n, long), n-1, dyInt(-3, -110))} {
			c := root(-120, 0)
			if got := c.call(a, a); got.String() != (matAnswers{n: n, dys: a.A, ok: true}).String() {
				t.Fatalf("RootMat of %v in no step is %s", a, got)
			}
			sameMemory(t, c, a, a)
		}
		sameMemory(t, root(0, 12), diagonal(n, one), impl.Mat{})
		// How far it is off is a number of the argument.
		for _, call := range []matCall{
			{"Residual of nought", false, func(a, b impl.Mat) matAnswers {
				d, ok := impl.Residual(a, noughts(a.N))
				return matAnswers{dys: []impl.Dy{d}, ok: ok}
			}},
			{"RootMat of little", false, func(a, b impl.Mat) matAnswers {
				small := shiftedMat(a, -200)
				small.A[0].M = a.A[0].M
				m, far, ok := impl.RootMat(small, -120, 0)
				return matAnswers{n: m.N, dys: append(slices.Clone(m.A), far), ok: ok}
			}},
		} {
			sameMemory(t, call, diagonal(n, long), impl.Mat{})
		}
	}
}

// One list may be handed in as both matrices, whole or lying across each other, and one list of limbs as all numbers.
func TestFuncArgumentsThatShare(t *testing.T) {
	limbs := []int{65535, 7, 65535, 1, 9}
	var all []impl.Dy
	for i := range 24 {
		length := 1 + i%4
		all = append(all, impl.Dy{M: impl.Whole{Neg: i%3 == 0, A: impl.Nat{L: limbs[:length]}}, E: 3 - 16*length - 5*i%7})
	}
	holder := impl.Mat{N: 1, A: all}
	was := written(holder)
	answered := 0
	for n := 1; n <= impl.MaxN; n++ {
		for _, c := range funcCalls() {
			for from := range 4 {
				a, b := impl.Mat{N: n, A: all[from : from+n*n]}, impl.Mat{N: n, A: all[2*from : 2*from+n*n]}
				want := c.call(copyMat(a), copyMat(b)).String()
				got := c.call(a, b)
				if got.String() != want {
					t.Fatalf("%s of lists that share: %s, not %s", c.name, got, want)
				}
				if got.ok {
					answered++
				}
				numbersApart(t, c.name, got)
				if written(holder) != was {
					t.Fatal(c.name, "wrote into its arguments")
				}
			}
		}
	}
	if answered < 200 {
		t.Fatal("few answer:", answered)
	}
}

// The same answer comes at a second call, whatever was asked in between.
func TestFuncKeepsNothing(t *testing.T) {
	var list []impl.Mat
	for n := 1; n <= impl.MaxN; n++ {
		list = append(list, diagonal(n, dyInt(3, 0)), ones(n), noughts(n), diagonal(n, dyInt(-1, 0)))
	}
	list = append(list, expMats(1131, 1)...)
	calls := append(funcCalls(), expNumCall(-30))
	for _, c := range calls {
		var first []string
		for i, a := range list {
			first = append(first, c.call(a, list[(i+1)%len(list)]).String())
		}
		for i, a := range slices.Backward(list) {
			other := list[(i+5)%len(list)]
			calls[i%len(calls)].call(other, other)
			impl.Fact(i)
			impl.ExpTerms(-i)
			if got := c.call(a, list[(i+1)%len(list)]).String(); got != first[i] {
				t.Fatalf("%s of %v: %s, and before %s", c.name, a, got, first[i])
			}
		}
	}
	for n := range 201 {
		was, _ := impl.Fact(n)
		text := fmt.Sprint(was)
		scribble(answers{nats: []impl.Nat{was}})
		if again, ok := impl.Fact(n); !ok || fmt.Sprint(again) != text {
			t.Fatal("Fact", n, again)
		}
	}
}

// What lies behind a list's length would make another matrix of it, or none.
func TestFuncBehindTheLength(t *testing.T) {
	all := []impl.Dy{dyInt(1, 0), dyInt(2, 0), {}, dyInt(1, 0), {E: 9}, dyInt(6, 0), dyInt(7, 0), dyInt(8, 0), dyInt(9, 0)}
	limbs := []int{1, 0, 0, 7}
	all[0].M.A.L = limbs[:1]
	m := impl.Mat{N: 2, A: all[:4]}
	was := written(m)
	x, far, ok := impl.RootMat(m, -8, 6)
	sameAsMat(t, "RootMat", x, ok, matInts(2, 0, 1, 1, 0, 1))
	sameDy(t, "RootMat, how far", far, scaled(impl.Dy{}), 0)
	d, ok := impl.Residual(m, m)
	sameDyTold(t, "Residual", d, ok, scaled(dyInt(2, 0)), -impl.MaxE)
	hold, ok := impl.ExpHold(m, -20)
	wantHold(copyMat(m), -20).same(t, "ExpHold", hold, ok)
	sameNear(t, m, -20)
	v, ok := impl.ExpNum(all[0], -20)
	wantHold(matInts(1, 0, 1), -20).same(t, "ExpNum", impl.IvMat{N: 1, A: []impl.Iv{v}}, ok)
	for _, short := range []impl.Mat{{N: 3, A: all[:4]}, {N: 2, A: all[:3]}, {N: 3, A: all[:8]}, {N: 1, A: all[:0]}} {
		refusedByAll(t, short, -8)
		d, ok := impl.Residual(short, short)
		refusedDy(t, "Residual", d, ok)
	}
	if written(m) != was || !slices.Equal(limbs, []int{1, 0, 0, 7}) {
		t.Fatal(written(m))
	}
}
