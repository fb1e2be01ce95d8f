package tests

import (
	"fmt"
	"math"
	"slices"
	"strings"
	"testing"

	"loop.example/g00382/impl"
)

// badIvMats has every way of not being IvMatOk: a wrong N, too few or too many intervals, one that is not IvOk in each place.
func badIvMats() []impl.IvMat {
	good := ivInt(-1, 2, 0)
	many := func(n int) []impl.Iv { return slices.Repeat([]impl.Iv{good}, n) }
	list := []impl.IvMat{{}, {A: []impl.Iv{}}, ivMatOf(0), ivMatOf(0, good), ivMatOf(-1, good), ivMatOf(-2, many(4)...), ivMatOf(5, many(25)...), ivMatOf(5, many(16)...), ivMatOf(math.MinInt),
		ivMatOf(math.MaxInt, good), ivMatOf(1 << 32), ivMatOf(1<<32+1, good), ivMatOf(1 << 62), ivMatOf(-1<<32+1, good)}
	for n := 1; n <= impl.MaxN; n++ {
		list = append(list, impl.IvMat{N: n}, impl.IvMat{N: n, A: []impl.Iv{}}, ivMatOf(n), ivMatOf(n, many(n*n+1)...), ivMatOf(n, many(n*n-1)...), ivMatOf(n, make([]impl.Iv, n*n+1)...),
			ivMatOf(n, make([]impl.Iv, n*n-1)...), ivMatOf(n+1, many(n*n)...), ivMatOf(n-1, many(n*n)...))
		for place := range n * n {
			for i, bad := range badIvs() {
				if (i+place)%(2*n*n) == 0 {
					list = append(list, withIv(sameIvs(n, good), place, bad))
				}
			}
			list = append(list, withIv(sameIvs(n, good), place, ivInt(1, 0, 0)), withIv(sameIvs(n, good), place, ivInt(0, -1, -impl.MaxE)))
		}
	}
	return list
}

// heldAnswers is what a function of this chapter answers, told alike for all of them.
type heldAnswers struct {
	n   int
	ivs []impl.Iv
	dys []impl.Dy
	ok  bool
}

func (a heldAnswers) String() string {
	return fmt.Sprint(len(a.ivs), matAnswers{n: a.n, dys: a.numbers(), ok: a.ok})
}

// numbers has all ends and numbers of the answer.
func (a heldAnswers) numbers() []impl.Dy { return append(flat(a.ivs), a.dys...) }

type heldCall struct {
	name string
	// binary says that b matters, too.
	binary bool
	call   func(a impl.IvMat, b impl.IvMat) heldAnswers
}

func heldMat(m impl.IvMat, ok bool) heldAnswers { return heldAnswers{n: m.N, ivs: m.A, ok: ok} }

// heldCalls has the functions of the chapter; where one takes a matrix of numbers, it has the lower ends of b, or of a.
func heldCalls() []heldCall {
	yes := func(ok bool) heldAnswers { return heldAnswers{ok: ok} }
	list := []heldCall{
		{"IvMatOk", false, func(a, b impl.IvMat) heldAnswers { return yes(impl.IvMatOk(a)) }},
		{"IvMatHas", true, func(a, b impl.IvMat) heldAnswers { return yes(impl.IvMatHas(a, losOf(b))) }},
		{"IvMatAdd", true, func(a, b impl.IvMat) heldAnswers { return heldMat(impl.IvMatAdd(a, b)) }},
		{"IvMatMul", true, func(a, b impl.IvMat) heldAnswers { return heldMat(impl.IvMatMul(a, b)) }},
		{"IvMatMid", false, func(a, b impl.IvMat) heldAnswers {
			m, ok := impl.IvMatMid(a)
			return heldAnswers{n: m.N, dys: m.A, ok: ok}
		}},
		{"IvMatWide", false, func(a, b impl.IvMat) heldAnswers {
			d, ok := impl.IvMatWide(a)
			return heldAnswers{dys: []impl.Dy{d}, ok: ok}
		}},
		{"IvMatMeets", true, func(a, b impl.IvMat) heldAnswers { return yes(impl.IvMatMeets(a, b)) }},
	}
	for _, k := range []int{1, 3, 1000000} {
		list = append(list, heldCall{"IvMatDiv", false, func(a, b impl.IvMat) heldAnswers { return heldMat(impl.IvMatDiv(a, k, -60)) }})
	}
	for _, low := range []int{-200, -2, 0, 200} {
		list = append(list, heldCall{"IvMatOut", false, func(a, b impl.IvMat) heldAnswers { return heldMat(impl.IvMatOut(a, low)) }})
	}
	for _, by := range []impl.Dy{{}, dyInt(1, 0), dyInt(65537, -3)} {
		list = append(list, heldCall{"IvMatFat", false, func(a, b impl.IvMat) heldAnswers { return heldMat(impl.IvMatFat(a, by)) }})
	}
	return list
}

// heldRefusal is what a call answers where an argument is not as it must be.
func heldRefusal(name string) string {
	if name == "IvMatWide" {
		return heldAnswers{dys: make([]impl.Dy, 1)}.String()
	}
	return heldAnswers{}.String()
}

func TestIvMatWrongMatrices(t *testing.T) {
	list := badIvMats()
	for _, c := range heldCalls() {
		zero := heldRefusal(c.name)
		for _, bad := range list {
			n := min(max(bad.N, 1), impl.MaxN)
			for _, other := range []impl.IvMat{sameIvs(n, ivInt(-3, 3, 0)), sameIvs(n, impl.Iv{}), sameIvs(1, ivInt(-3, 3, 0)), {}, bad} {
				if got := c.call(bad, other).String(); got != zero {
					t.Fatalf("%s of %v, %v is %s", c.name, bad, other, got)
				}
				// A wrong Hi, or a Lo above it, is not seen by what asks for the lower ends alone.
				if !c.binary || c.name == "IvMatHas" {
					continue
				}
				if got := c.call(other, bad).String(); got != zero {
					t.Fatalf("%s of %v, %v is %s", c.name, other, bad, got)
				}
			}
		}
	}
}

// Each way of being no interval, in one place or another of each N, in the first and in the second argument.
func TestIvMatWrongIntervalsInEachPlace(t *testing.T) {
	calls := heldCalls()
	for i, bad := range badIvs() {
		eachPlace(func(n int, place int) {
			if (i+place)%(n*n) != 0 {
				return
			}
			for _, good := range []impl.IvMat{sameIvs(n, ivInt(-1, 1, 0)), sameIvs(n, impl.Iv{})} {
				m := withIv(good, place, bad)
				if impl.IvMatOk(m) {
					t.Fatal(m)
				}
				for _, c := range calls {
					zero := heldRefusal(c.name)
					if got := c.call(m, good).String(); got != zero {
						t.Fatalf("%s of %v is %s", c.name, m, got)
					}
					if got := c.call(good, m).String(); c.binary && c.name != "IvMatHas" && got != zero {
						t.Fatalf("%s of %v and %v is %s", c.name, good, m, got)
					}
				}
			}
		})
	}
}

func TestIvMatOfAndHasOfWrongMats(t *testing.T) {
	for _, bad := range badMats() {
		got, ok := impl.IvMatOf(bad)
		refusedIvMat(t, fmt.Sprint("IvMatOf ", bad), got, ok)
		n := min(max(bad.N, 1), impl.MaxN)
		for _, v := range []impl.IvMat{sameIvs(n, ivInt(-1, 1, impl.MaxE)), pointsOf(noughts(n)), sameIvs(1, ivInt(-1, 1, 0)), {}} {
			if impl.IvMatHas(v, bad) {
				t.Fatal(v, bad)
			}
		}
		var list []impl.Iv
		for _, d := range bad.A {
			list = append(list, impl.Iv{Lo: d, Hi: d})
		}
		if impl.IvMatHas(ivMatOf(bad.N, list...), bad) {
			t.Fatal(bad)
		}
	}
	for _, bad := range badDys() {
		eachPlace(func(n int, place int) {
			m := with(noughts(n), place, bad)
			got, ok := impl.IvMatOf(m)
			refusedIvMat(t, "IvMatOf", got, ok)
			if impl.IvMatHas(sameIvs(n, ivInt(-1, 1, impl.MaxE)), m) {
				t.Fatal(m)
			}
		})
	}
	for _, bad := range badIvMats() {
		n := min(max(bad.N, 1), impl.MaxN)
		for _, m := range []impl.Mat{noughts(n), ones(n), noughts(1), {}} {
			if impl.IvMatHas(bad, m) {
				t.Fatal(bad, m)
			}
		}
	}
}

func TestIvMatFatByWrongNumbers(t *testing.T) {
	for n := 1; n <= impl.MaxN; n++ {
		for _, a := range []impl.IvMat{sameIvs(n, impl.Iv{}), sameIvs(n, ivInt(-1, 1, 0)), {}, ivMatOf(n)} {
			for _, bad := range badDys() {
				got, ok := impl.IvMatFat(a, bad)
				refusedIvMat(t, fmt.Sprint("IvMatFat by ", bad), got, ok)
			}
		}
	}
}

func TestIvMatUnlikeN(t *testing.T) {
	for n := 1; n <= impl.MaxN; n++ {
		for k := 1; k <= impl.MaxN; k++ {
			for _, a := range []impl.IvMat{sameIvs(n, impl.Iv{}), sameIvs(n, ivInt(-1, 1, 0)), pointsOf(diagonal(n, dyInt(-3, 1)))} {
				for _, b := range []impl.IvMat{sameIvs(k, impl.Iv{}), sameIvs(k, ivInt(-7, 1, -1))} {
					for _, call := range []func(a impl.IvMat, b impl.IvMat) (impl.IvMat, bool){impl.IvMatAdd, impl.IvMatMul} {
						got, ok := call(a, b)
						if n != k {
							refusedIvMat(t, fmt.Sprint(n, " and ", k), got, ok)
						} else if !ok {
							t.Fatal(n, k)
						}
					}
					if n != k && (impl.IvMatMeets(a, b) || impl.IvMatHas(a, losOf(b))) {
						t.Fatal(n, k)
					}
				}
			}
		}
	}
}

// allWritten tells all of a matrix of intervals, what lies behind the lengths of its lists, too.
func allWritten(m impl.IvMat) string {
	var parts []string
	for _, d := range flat(m.A[:cap(m.A)]) {
		parts = append(parts, fmt.Sprint(d.M.Neg, d.E, len(d.M.A.L), d.M.A.L[:cap(d.M.A.L)]))
	}
	return fmt.Sprint(m.N, len(m.A), strings.Join(parts, " "))
}

// memoryIvMats has ends of many lengths, some that share one list, numbers alone, and some matrices that are not IvMatOk.
func memoryIvMats(n int) []impl.IvMat {
	long := dy(plus(two(300), 1), -20)
	all := slices.DeleteFunc(memoryIvs(), func(v impl.Iv) bool { return !impl.IvOk(v) })
	var mixed, round []impl.Iv
	for i := range n * n {
		mixed = append(mixed, all[(2*i+n)%len(all)])
		round = append(round, all[(5*i+1)%len(all)])
	}
	shared := impl.Iv{Lo: long, Hi: long}
	list := []impl.IvMat{sameIvs(n, impl.Iv{}), sameIvs(n, ivInt(1, 3, 0)), pointsOf(diagonal(n, dyInt(1, 0))), pointsOf(diagonal(n, long)), ivMatOf(n, mixed...), ivMatOf(n, round...),
		ivMatOf(n, slices.Repeat([]impl.Iv{shared}, n*n)...), ivMatOf(n, slices.Repeat([]impl.Iv{ivInt(-5, 7, -3)}, n*n)...)}
	return append(list, ivMatOf(n, mixed[1:]...), withIv(sameIvs(n, impl.Iv{}), n-1, ivInt(2, 1, 0)), withIv(sameIvs(n, impl.Iv{}), 0, impl.Iv{Lo: impl.Dy{M: impl.Whole{A: roomyNat(2)}}}))
}

// overwriteHeld writes over all of an answer, what lies behind its lengths, too.
func overwriteHeld(a heldAnswers) {
	full := a.ivs[:cap(a.ivs)]
	scribbleDys(dyAnswers{dys: flat(full)})
	for i := range full {
		full[i] = ivInt(12345, 12346, 6)
	}
	overwrite(matAnswers{dys: a.dys})
}

// sameHeldMemory calls three times: nothing is written into an argument, nothing handed out twice, nothing kept.
func sameHeldMemory(t *testing.T, c heldCall, a impl.IvMat, b impl.IvMat) {
	t.Helper()
	was := allWritten(a) + allWritten(b)
	asked := func(what string) {
		t.Helper()
		if allWritten(a)+allWritten(b) != was {
			t.Fatalf("%s %s: %s", c.name, what, allWritten(a)+allWritten(b))
		}
	}
	first, second := c.call(a, b), c.call(a, b)
	asked("wrote into an argument")
	told := first.String()
	overwriteHeld(first)
	asked("shares memory with an argument")
	if second.String() != told {
		t.Fatalf("%s hands out what it keeps", c.name)
	}
	third := c.call(a, b)
	if third.String() != told {
		t.Fatalf("%s keeps something", c.name)
	}
	numbersApart(t, c.name, matAnswers{dys: third.numbers()})
	asked("shares memory with an argument")
}

func TestIvMatMemory(t *testing.T) {
	for n := 1; n <= impl.MaxN; n++ {
		list := memoryIvMats(n)
		for _, c := range heldCalls() {
			for i, a := range list {
				for j, b := range list {
					if c.binary || i == j {
						sameHeldMemory(t, c, a, b)
					}
				}
			}
		}
	}
}

// Where the answer's ends are just those of an argument, they are told anew all the same.
func TestIvMatMemoryOfTheSameEnds(t *testing.T) {
	for n := 1; n <= impl.MaxN; n++ {
		nought, one := pointsOf(noughts(n)), pointsOf(diagonal(n, dyInt(1, 0)))
		calls := []heldCall{
			{"IvMatFat by nothing", false, func(a, b impl.IvMat) heldAnswers { return heldMat(impl.IvMatFat(a, impl.Dy{})) }},
			{"a sum with nought", false, func(a, b impl.IvMat) heldAnswers { return heldMat(impl.IvMatAdd(a, nought)) }},
			{"a sum of nought", false, func(a, b impl.IvMat) heldAnswers { return heldMat(impl.IvMatAdd(nought, a)) }},
			{"times one", false, func(a, b impl.IvMat) heldAnswers { return heldMat(impl.IvMatMul(a, one)) }},
			{"one times it", false, func(a, b impl.IvMat) heldAnswers { return heldMat(impl.IvMatMul(one, a)) }},
		}
		outs := []heldCall{
			{"IvMatOut of multiples", false, func(a, b impl.IvMat) heldAnswers { return heldMat(impl.IvMatOut(a, -200)) }},
			{"IvMatDiv by one", false, func(a, b impl.IvMat) heldAnswers { return heldMat(impl.IvMatDiv(a, 1, -200)) }},
		}
		for _, a := range memoryIvMats(n) {
			if !impl.IvMatOk(a) {
				continue
			}
			fine := !slices.ContainsFunc(flat(a.A), func(d impl.Dy) bool { return d.E < -200 })
			for i, c := range append(calls, outs...) {
				if i >= len(calls) && !fine {
					continue
				}
				if got := c.call(a, a); got.String() != heldMat(a, true).String() {
					t.Fatalf("%s of %v is %s", c.name, a, got)
				}
				sameHeldMemory(t, c, a, a)
			}
		}
	}
}

// A number of the argument is both ends of an interval, which share no memory, and a matrix that shares lists has all of them anew.
func TestIvMatOfMemory(t *testing.T) {
	for n := 1; n <= impl.MaxN; n++ {
		for _, m := range memoryMats(n) {
			was := written(m)
			c := heldCall{"IvMatOf", false, func(a, b impl.IvMat) heldAnswers { return heldMat(impl.IvMatOf(m)) }}
			sameHeldMemory(t, c, impl.IvMat{}, impl.IvMat{})
			if written(m) != was {
				t.Fatal("IvMatOf shares memory with its argument, or writes into it", m)
			}
			impl.IvMatHas(sameIvs(n, ivInt(-1, 1, 9)), m)
			if written(m) != was {
				t.Fatal("IvMatHas writes into its argument", m)
			}
		}
	}
}

// The middle of a number alone is that number, told anew.
func TestIvMatMidMemoryOfNumbersAlone(t *testing.T) {
	for n := 1; n <= impl.MaxN; n++ {
		for _, m := range memoryMats(n) {
			if !impl.MatOk(m) {
				continue
			}
			var list []impl.Iv
			for _, d := range m.A {
				list = append(list, impl.Iv{Lo: d, Hi: d})
			}
			c := heldCall{"IvMatMid", false, func(a, b impl.IvMat) heldAnswers {
				middle, ok := impl.IvMatMid(a)
				return heldAnswers{n: middle.N, dys: middle.A, ok: ok}
			}}
			a := ivMatOf(n, list...)
			if got, want := c.call(a, a), (heldAnswers{n: n, dys: m.A, ok: true}); got.String() != want.String() {
				t.Fatalf("IvMatMid of %v is %s", m, got)
			}
			sameHeldMemory(t, c, a, a)
		}
	}
}

// What a matrix is made wider by is an argument, too.
func TestIvMatFatMemory(t *testing.T) {
	for _, by := range []impl.Dy{dyInt(1, 0), dyInt(65537, -3), dy(plus(two(300), 1), -20), {M: impl.Whole{A: roomyNat()}}, {M: impl.Whole{A: roomyNat(2)}}, dyInt(-3, 0)} {
		for n := 1; n <= impl.MaxN; n++ {
			holder := matOf(1, by)
			was := written(holder)
			for _, a := range []impl.IvMat{sameIvs(n, impl.Iv{}), sameIvs(n, ivInt(1, 3, 0)), ivMatOf(n, slices.Repeat([]impl.Iv{{Lo: by, Hi: by}}, n*n)...)} {
				got, ok := impl.IvMatFat(a, by)
				numbersApart(t, "IvMatFat", matAnswers{dys: flat(got.A)})
				overwriteHeld(heldMat(got, ok))
				if written(holder) != was {
					t.Fatal("IvMatFat shares memory with what it is made wider by, or writes into it", by)
				}
			}
		}
	}
}

// copyIvMat is alike, and shares no list.
func copyIvMat(m impl.IvMat) impl.IvMat {
	var list []impl.Iv
	for _, v := range m.A {
		list = append(list, impl.Iv{Lo: alone(v.Lo).Lo, Hi: alone(v.Hi).Hi})
	}
	return ivMatOf(m.N, list...)
}

// One list may be handed in as both matrices, whole or lying across each other, and one list of limbs as all ends.
func TestIvMatArgumentsThatShare(t *testing.T) {
	limbs := []int{65535, 7, 65535, 1, 9}
	var all []impl.Iv
	for i := range 24 {
		d := func(neg bool) impl.Dy {
			return impl.Dy{M: impl.Whole{Neg: neg, A: impl.Nat{L: limbs[:1+i%4]}}, E: 5*i%7 - 3}
		}
		all = append(all, impl.Iv{Lo: d(i%3 != 0), Hi: d(i%3 == 1)})
	}
	whole := impl.IvMat{N: 1, A: all}
	was := allWritten(whole)
	for n := 1; n <= impl.MaxN; n++ {
		for _, c := range heldCalls() {
			for from := range 4 {
				a, b := impl.IvMat{N: n, A: all[:n*n]}, impl.IvMat{N: n, A: all[from : from+n*n]}
				want := c.call(copyIvMat(a), copyIvMat(b)).String()
				got := c.call(a, b)
				if got.String() != want {
					t.Fatalf("%s of lists that share: %s, not %s", c.name, got, want)
				}
				numbersApart(t, c.name, matAnswers{dys: got.numbers()})
				if allWritten(whole) != was {
					t.Fatal(c.name, "wrote into its arguments")
				}
			}
		}
	}
}

// What lies behind a list's length would make another matrix of it, or none.
func TestIvMatBehindTheLength(t *testing.T) {
	all := []impl.Iv{ivInt(1, 3, 0), ivInt(2, 2, 0), ivInt(-3, 0, 0), ivInt(4, 5, 0), ivInt(1, 0, 0), ivInt(6, 6, 0), ivInt(7, 7, 0), ivInt(8, 8, 0), ivInt(9, 9, 0)}
	limbs := []int{3, 0, 0, 7}
	all[0].Hi.M.A.L = limbs[:1]
	m := impl.IvMat{N: 2, A: all[:4]}
	was := allWritten(m)
	got, ok := impl.IvMatMul(m, m)
	sameAsIvMat(t, "IvMatMul", got, ok, ivMatInts(2, 0, [2]int{-5, 9}, [2]int{10, 16}, [2]int{-24, 0}, [2]int{10, 25}))
	got, ok = impl.IvMatAdd(m, m)
	sameAsIvMat(t, "IvMatAdd", got, ok, ivMatInts(2, 1, [2]int{1, 3}, [2]int{2, 2}, [2]int{-3, 0}, [2]int{4, 5}))
	for _, short := range []impl.IvMat{{N: 3, A: all[:4]}, {N: 2, A: all[:3]}, {N: 3, A: all[:8]}, {N: 1, A: all[:0]}} {
		if impl.IvMatOk(short) || impl.IvMatMeets(short, short) {
			t.Fatal(short)
		}
		got, ok = impl.IvMatAdd(short, short)
		refusedIvMat(t, "IvMatAdd", got, ok)
	}
	if allWritten(m) != was || !slices.Equal(limbs, []int{3, 0, 0, 7}) {
		t.Fatal(allWritten(m))
	}
}

// The same answers come again, after calls with all others.
func TestIvMatKeepsNothing(t *testing.T) {
	mats := slices.Concat(memoryIvMats(1), memoryIvMats(2), memoryIvMats(3), memoryIvMats(4), badIvMats()[:20])
	for _, c := range heldCalls() {
		var was []string
		for i, a := range mats {
			was = append(was, c.call(a, mats[(i+1)%len(mats)]).String())
		}
		for i, a := range slices.Backward(mats) {
			if got := c.call(a, mats[(i+1)%len(mats)]).String(); got != was[i] {
				t.Fatalf("%s of %v: %s, and before %s", c.name, a, got, was[i])
			}
		}
	}
}
