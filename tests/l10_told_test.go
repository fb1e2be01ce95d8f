package tests

import (
	"fmt"
	"math"
	"slices"
	"testing"

	"loop.example/g00382/impl"
)

// spans has intervals of which d is an end: alone, as Hi and as Lo, where the other end makes sums and products that may be told.
func spans(d impl.Dy) []impl.Iv {
	list := []impl.Iv{alone(d)}
	for _, other := range []impl.Dy{{}, dyInt(-1, 2999), dyInt(1, 2999)} {
		list = append(list, ordered(d, other))
	}
	return list
}

// eachPlace calls do with all places of all N.
func eachPlace(do func(n int, place int)) {
	for n := 1; n <= impl.MaxN; n++ {
		for place := range n * n {
			do(n, place)
		}
	}
}

// Of each row one end of the sum, or both, is the sum of its numbers, and the other end may be told.
func TestIvMatSumsThatMayNotBeToldInOnePlace(t *testing.T) {
	for _, row := range sumRows() {
		for _, x := range []impl.Dy{row.x, impl.DyNeg(row.x)} {
			y := row.y
			if x.M.Neg != row.x.M.Neg {
				y = impl.DyNeg(y)
			}
			first, second := spans(x), spans(y)
			eachPlace(func(n int, place int) {
				for i, v := range first {
					a, b := withIv(sameIvs(n, ivInt(-1, 1, 0)), place, v), withIv(sameIvs(n, ivInt(-1, 1, 0)), place, second[i])
					_, ok := sameHeldSum(t, a, b)
					_, is := sameHeldSum(t, b, a)
					if ok != is || i == 0 && ok != row.ok {
						t.Fatal(row, n, place, ok)
					}
				}
			})
		}
	}
}

func TestIvMatSumsOfOneEndThatMayNotBeTold(t *testing.T) {
	rows := []struct {
		a, b impl.Iv
		ok   bool
	}{
		{ivInt(0, 1, 3000), ivInt(0, 1, 3000), false}, {ivInt(-1, 0, 3000), ivInt(-1, 0, 3000), false}, {ivInt(0, 1, 2999), ivInt(-1, 1, 2999), true}, {ivInt(-1, 1, 2999), ivInt(-1, 1, 2999), true},
		{ivInt(-1, 1, 3000), ivInt(-1, 1, 3000), false}, {ivInt(-1, 1, -3000), ivInt(-1, 1, -3000), true}, {impl.Iv{Hi: dyInt(1, 1600)}, ivInt(0, 1, 0), false}, {impl.Iv{Hi: dyInt(1, 1599)}, ivInt(0, 1, 0), true},
		{impl.Iv{Lo: dyInt(-1, 1600)}, ivInt(-1, 0, 0), false}, {impl.Iv{Lo: dyInt(-1, 1599)}, ivInt(-1, 0, 0), true}, {impl.Iv{Lo: dyInt(-1, 0), Hi: dyInt(1, 1600)}, ivInt(0, 0, 0), true},
		{impl.Iv{Lo: dyInt(-1, 1600), Hi: dyInt(1, 1600)}, ivInt(0, 1, 0), false}, {impl.Iv{Hi: dy(mostNat(), 0)}, ivInt(0, 1, 0), true}, {impl.Iv{Hi: dy(mostNat(), 0)}, ivInt(0, 2, 0), false},
	}
	for _, row := range rows {
		eachPlace(func(n int, place int) {
			a, b := withIv(sameIvs(n, ivInt(-1, 1, 0)), place, row.a), withIv(sameIvs(n, ivInt(2, 3, 0)), place, row.b)
			for _, pair := range [][2]impl.IvMat{{a, b}, {b, a}} {
				if _, ok := sameHeldSum(t, pair[0], pair[1]); ok != row.ok {
					t.Fatal(row, n, place, ok)
				}
			}
		})
	}
}

// onePlaceOfIvs has two matrices whose product has v times w in the row i and the column j, and little intervals else.
func onePlaceOfIvs(n int, i int, j int, k int, v impl.Iv, w impl.Iv) (impl.IvMat, impl.IvMat) {
	a, b := sameIvs(n, ivInt(-1, 1, 0)), sameIvs(n, ivInt(1, 2, 0))
	for place := range n {
		a.A[i*n+place], a.A[place*n+k] = impl.Iv{}, impl.Iv{}
		b.A[place*n+j], b.A[k*n+place] = impl.Iv{}, impl.Iv{}
	}
	a.A[i*n+k], b.A[k*n+j] = v, w
	return a, b
}

func TestIvMatProductsThatMayNotBeToldInOnePlace(t *testing.T) {
	for number, row := range productRows() {
		// An end alone of the second and the third one is the product of the row's numbers: the greatest one, or the least one.
		x, y := row.x, row.y
		x.M.Neg, y.M.Neg = false, false
		kinds := [][2]impl.Iv{{alone(row.x), alone(row.y)}, {ordered(x, impl.Dy{}), ordered(y, impl.Dy{})}, {ordered(impl.DyNeg(x), impl.Dy{}), ordered(y, impl.Dy{})}}
		for n := 1; n <= impl.MaxN; n++ {
			for place := range n * n * n {
				if n > 2 && (place+number)%3 != 0 {
					continue
				}
				for _, kind := range kinds {
					a, b := onePlaceOfIvs(n, place%n, place/n%n, place/n/n, kind[0], kind[1])
					if _, ok := sameHeldProduct(t, a, b); ok != row.ok {
						t.Fatal(row, n, place, kind, ok)
					}
				}
			}
		}
	}
}

// Where a product that lies between the ends may not be told, that does not matter.
func TestIvMatProductsBetweenTheEnds(t *testing.T) {
	for _, row := range toldRows() {
		for n := 1; n <= impl.MaxN; n++ {
			for place := range n * n * n {
				a, b := onePlaceOfIvs(n, place%n, place/n%n, place/n/n, row.a, row.b)
				_, ok := sameHeldProduct(t, a, b)
				if _, is := impl.IvMul(row.a, row.b); is != ok {
					t.Fatal(row.name, n, place, ok)
				}
			}
		}
	}
}

// onTheWay has products in the order of a's columns, and whether both ends of their sum may be told.
type onTheWay struct {
	list []impl.Iv
	ok   bool
}

func waysOfIvs() []onTheWay {
	power := func(e int) impl.Iv { return alone(dyInt(1, e)) }
	less := func(e int) impl.Iv { return alone(dyInt(-1, e)) }
	high := func(e int) impl.Iv { return ivInt(0, 1, e) }
	low := func(e int) impl.Iv { return ivInt(-1, 0, e) }
	most := alone(dy(mostNat(), 0))
	return []onTheWay{
		// A sum of two, as they come, has 1601 bits, and what follows undoes it, or does not.
		{[]impl.Iv{power(1600), power(0), less(1600)}, true}, {[]impl.Iv{power(1600), less(1600), power(0)}, true}, {[]impl.Iv{power(0), power(1600), less(1600)}, true}, {[]impl.Iv{less(1600), less(0), power(1600)}, true},
		{[]impl.Iv{power(1600), power(0), {}}, false}, {[]impl.Iv{power(1600), power(0), power(0)}, true}, {[]impl.Iv{power(1600), power(0), power(1)}, false}, {[]impl.Iv{power(1599), power(0), less(1599)}, true},
		{[]impl.Iv{most, power(1), less(0)}, true}, {[]impl.Iv{most, less(0), power(1)}, true}, {[]impl.Iv{most, power(0), power(0)}, false}, {[]impl.Iv{power(0), power(0), most}, false}, {[]impl.Iv{most, power(0), power(1)}, true},
		{[]impl.Iv{power(1600), power(0), less(0), less(1600)}, true}, {[]impl.Iv{{}, power(1600), power(0), less(1600)}, true}, {[]impl.Iv{power(1600), {}, {}, power(0)}, false}, {[]impl.Iv{power(1599), {}, {}, power(0)}, true},
		// A sum of two is beyond MaxE, and what follows brings it back, or does not.
		{[]impl.Iv{power(3000), power(3000), less(3000)}, true}, {[]impl.Iv{power(3000), power(3000), power(3000)}, true}, {[]impl.Iv{power(3000), power(3000), {}}, false}, {[]impl.Iv{less(3000), less(3000), {}}, false},
		{[]impl.Iv{power(2999), power(2999), power(2999), power(2999)}, false}, {[]impl.Iv{power(2999), power(2999), power(2999), less(2999)}, true}, {[]impl.Iv{power(3000), power(3000), less(3000), less(3000)}, true},
		{[]impl.Iv{power(3000), power(-3000)}, false}, {[]impl.Iv{power(3000), power(-3000), less(-3000)}, true}, {[]impl.Iv{power(3000), less(3000)}, true},
		// A product is beyond MaxE, or below the least one.
		{[]impl.Iv{power(3001)}, false}, {[]impl.Iv{power(3001), power(3000)}, true}, {[]impl.Iv{power(3001), less(3000)}, true}, {[]impl.Iv{power(3001), power(3001)}, false}, {[]impl.Iv{power(4000), less(4000)}, true},
		{[]impl.Iv{power(4000), less(4000), power(4000)}, false}, {[]impl.Iv{power(6000), less(6000), power(-6000), less(-6000)}, true}, {[]impl.Iv{power(6000), less(6000), power(-6000), power(-6000)}, false},
		{[]impl.Iv{power(-3001)}, false}, {[]impl.Iv{power(-3001), power(-3001)}, true}, {[]impl.Iv{power(-3001), power(-3000)}, false}, {[]impl.Iv{power(-3001), less(-3000), power(-3001)}, true}, {[]impl.Iv{less(-6000), power(-6000)}, true},
		// One of the ends alone has it.
		{[]impl.Iv{high(1600), high(0), less(1600)}, true}, {[]impl.Iv{low(1600), low(0), power(1600)}, true}, {[]impl.Iv{high(1600), high(0), low(1600)}, false}, {[]impl.Iv{low(1600), low(0), high(1600)}, false},
		{[]impl.Iv{high(1600), low(0), low(1600)}, false}, {[]impl.Iv{high(1600), low(0), high(1)}, true}, {[]impl.Iv{low(1600), high(0), low(1)}, true}, {[]impl.Iv{high(3000), high(3000), less(3000)}, true},
		{[]impl.Iv{low(3000), low(3000), power(3000)}, true}, {[]impl.Iv{high(3000), high(3000)}, false}, {[]impl.Iv{low(3000), low(3000)}, false}, {[]impl.Iv{high(3000), low(3000), high(2999)}, true}, {[]impl.Iv{high(3001), less(3000)}, true},
		{[]impl.Iv{low(3001), power(3000)}, true}, {[]impl.Iv{high(3001), high(3000)}, true}, {[]impl.Iv{low(3001), low(3000)}, true}, {[]impl.Iv{high(4000), less(4000)}, false}, {[]impl.Iv{high(4000), low(4000)}, false},
		{[]impl.Iv{high(-3001), high(-3001)}, true}, {[]impl.Iv{high(-3001), low(-3001)}, false}, {[]impl.Iv{high(-3001), high(-3001), low(-3000)}, true}, {[]impl.Iv{low(-3001), low(-3001), high(-3001)}, false},
	}
}

// factorsOf has two numbers that make v: what is half as far from 1 on either side.
func factorsOf(v impl.Iv) (impl.Iv, impl.Iv) {
	e := v.Hi.E
	if len(v.Hi.M.A.L) == 0 {
		e = v.Lo.E
	}
	half := e / 2
	scale := func(d impl.Dy) impl.Dy {
		if len(d.M.A.L) == 0 {
			return d
		}
		return impl.Dy{M: d.M, E: d.E - e + half}
	}
	return impl.Iv{Lo: scale(v.Lo), Hi: scale(v.Hi)}, alone(dyInt(1, e-half))
}

// Both ends of one place's sum must be told, and nothing on the way to them; all other places are 0. In whichever order the products come, that is alike.
func TestIvMatProductOnTheWay(t *testing.T) {
	for _, row := range waysOfIvs() {
		n := len(row.list)
		for place := range n * n {
			for from := range n {
				i, j := place/n, place%n
				a, b := sameIvs(n, impl.Iv{}), sameIvs(n, impl.Iv{})
				for k, v := range slices.Concat(row.list[from:], row.list[:from]) {
					a.A[i*n+k], b.A[k*n+j] = factorsOf(v)
				}
				if _, ok := sameHeldProduct(t, a, b); ok != row.ok {
					t.Fatal(row, place, from, ok)
				}
			}
		}
	}
}

// outRow has two numbers whose product may not be told, and a third one.
type outRow struct{ x, y, z impl.Dy }

func outRows() []outRow {
	long, most := dy(plus(two(800), 1), 0), dy(mostNat(), 0)
	rows := [][2]impl.Dy{{dyInt(1, 3000), dyInt(2, 0)}, {dyInt(1, 3000), dyInt(1, 3000)}, {dyInt(1, -3000), dyInt(1, -3000)}, {long, long}, {most, most}, {most, dyInt(3, 0)}, {dy(mostNat(), 3000), dy(mostNat(), 3000)}, {dyInt(1, 1500), dyInt(1, 1501)}}
	var list []outRow
	for _, row := range rows {
		for _, z := range []impl.Dy{{}, dyInt(-3, 1), dyInt(1, 3000), dyInt(-1, -3000), most} {
			list = append(list, outRow{row[0], row[1], z})
		}
	}
	return list
}

// Products that may not be told go out against each other, and the third number is left, as it is of matrices of numbers.
func TestIvMatProductsThatGoOut(t *testing.T) {
	one := dyInt(1, 0)
	for _, row := range outRows() {
		for place := range 9 {
			i, j := place/3, place%3
			a, b := noughts(3), noughts(3)
			for k := range 3 {
				from := (k + place) % 3
				a.A[i*3+k], b.A[k*3+j] = []impl.Dy{row.x, row.z, row.x}[from], []impl.Dy{row.y, one, impl.DyNeg(row.y)}[from]
			}
			left, ok := impl.MatMul(a, b)
			if !ok || !equalDys(left.A[place], row.z) {
				t.Fatal("MatMul", row)
			}
			got, ok := sameHeldProduct(t, pointsOf(a), pointsOf(b))
			sameAsIvMat(t, fmt.Sprint("IvMatMul ", row), got, ok, pointsOf(left))
			if scaled(row.z).Sign() != 0 {
				continue
			}
			// Two of one sign do not go out.
			last := (5 - place%3) % 3
			if _, ok := sameHeldProduct(t, pointsOf(a), pointsOf(with(b, last*3+j, row.y))); ok {
				t.Fatal("IvMatMul", row, place)
			}
		}
	}
}

func TestIvMatQuotientsThatMayNotBeTold(t *testing.T) {
	power := func(e int) impl.Dy { return dyInt(1, e) }
	rows := []struct {
		v      impl.Iv
		k, low int
		ok     bool
	}{
		{alone(power(3000)), 1, -200, true}, {alone(power(3000)), 2, -200, true}, {alone(power(3000)), 65536, 200, true}, {alone(power(3000)), 3, 200, false}, {alone(power(3000)), 1000000, 200, false},
		{alone(dy(mostNat(), 3000)), 1, 200, true}, {alone(dy(mostNat(), 3000)), 1, -200, true}, {ordered(impl.Dy{}, dyInt(3, 3000)), 3, -200, true}, {ordered(impl.Dy{}, dyInt(5, 3000)), 3, -200, false},
		{ordered(impl.Dy{}, dyInt(-5, 3000)), 3, -200, false}, {ordered(dyInt(-3, 3000), dyInt(3, 3000)), 3, 200, true}, {ordered(dyInt(-3, 3000), dyInt(4, 3000)), 3, 200, false},
		{ordered(dyInt(-4, 2990), dyInt(3, 3000)), 3, 200, false}, {alone(power(-3000)), 3, 200, true}, {alone(power(-3000)), 1000000, -200, true},
		// A third of 2^n, cut down, has n - 1 bits, and the lowest one is 1 for an even n; rounded up, it ends with 10.
		{alone(power(1800)), 3, 200, true}, {alone(power(1801)), 3, 200, true}, {alone(power(1802)), 3, 200, false}, {ordered(impl.Dy{}, power(1802)), 3, 200, true}, {ordered(impl.Dy{}, impl.DyNeg(power(1802))), 3, 200, true},
		{ordered(power(1802), power(1803)), 3, 200, false}, {ordered(power(1800), power(1802)), 3, 200, true}, {ordered(impl.DyNeg(power(1802)), power(1802)), 3, 200, true}, {alone(power(1402)), 3, -200, false},
		{ordered(impl.Dy{}, power(1402)), 3, -200, true}, {alone(power(1400)), 3, -200, true}, {ordered(impl.Dy{}, power(1403)), 3, -200, false}, {ordered(impl.DyNeg(power(1403)), impl.Dy{}), 3, -200, false},
	}
	for _, row := range rows {
		eachPlace(func(n int, place int) {
			a := withIv(sameIvs(n, ivInt(-1, 1, 0)), place, row.v)
			if _, ok := sameHeldQuotient(t, a, row.k, row.low); ok != row.ok {
				t.Fatal(row, n, place, ok)
			}
		})
	}
	all := farIvs()
	told, refused := 0, 0
	for i, v := range all {
		for j, k := range divisors() {
			for m, low := range fineLows() {
				if (i+j+m)%7 != 0 {
					continue
				}
				n := 1 + i%impl.MaxN
				if _, ok := sameHeldQuotient(t, withIv(sameIvs(n, ivInt(3, 5, 1)), i%(n*n), v), k, low); ok {
					told++
				} else {
					refused++
				}
			}
		}
	}
	if told < 500 || refused < 500 {
		t.Fatal("few quotients are told, or refused:", told, refused)
	}
}

func TestIvMatDivisors(t *testing.T) {
	for n := 1; n <= impl.MaxN; n++ {
		for _, a := range []impl.IvMat{sameIvs(n, impl.Iv{}), sameIvs(n, ivInt(-3, 1000000, 0)), sameIvs(n, ivInt(1, 1, -3000))} {
			for _, k := range []int{0, 1000001, -1, -2, -1000000, -1000001, 1000002, 2000000, 1 << 32, 1<<32 + 1, -1 << 32, 1 << 62, math.MaxInt, math.MinInt} {
				for _, low := range []int{-200, 0, 200} {
					got, ok := impl.IvMatDiv(a, k, low)
					refusedIvMat(t, fmt.Sprint("IvMatDiv by ", k), got, ok)
				}
			}
			for _, k := range divisors() {
				if _, ok := sameHeldQuotient(t, a, k, 0); !ok {
					t.Fatal("refused", k)
				}
			}
		}
	}
}

func TestIvMatLows(t *testing.T) {
	for n := 1; n <= impl.MaxN; n++ {
		for _, a := range []impl.IvMat{sameIvs(n, impl.Iv{}), sameIvs(n, ivInt(1, 3, 0)), sameIvs(n, ivInt(-1, 1, -3000)), sameIvs(n, ivInt(-3, 5, 1000))} {
			for low := -impl.MaxFine - 3; low <= impl.MaxFine+3; low++ {
				_, ok := impl.IvMatOut(a, low)
				_, is := impl.IvMatDiv(a, 1, low)
				if fine := low >= -200 && low <= 200; ok != fine || is != fine {
					t.Fatal(n, low, ok, is)
				}
			}
			for _, low := range badLows() {
				got, ok := impl.IvMatOut(a, low)
				refusedIvMat(t, fmt.Sprint("IvMatOut ", low), got, ok)
				for _, k := range divisors() {
					got, ok = impl.IvMatDiv(a, k, low)
					refusedIvMat(t, fmt.Sprint("IvMatDiv ", k, low), got, ok)
				}
			}
			for _, low := range []int{-impl.MaxFine, impl.MaxFine} {
				sameHeldOut(t, a, low)
				sameHeldQuotient(t, a, 3, low)
			}
		}
	}
}

// fatRow has an interval, what it is made wider by, and whether both ends may be told then.
type fatRow struct {
	v  impl.Iv
	by impl.Dy
	ok bool
}

func fatRows() []fatRow {
	most := dy(mostNat(), 0)
	return []fatRow{
		{impl.Iv{}, dyInt(1, 3000), true}, {impl.Iv{}, dyInt(1, -3000), true}, {impl.Iv{}, dy(mostNat(), 3000), true}, {ivInt(-1, 1, 2999), dyInt(1, 2999), true}, {ivInt(-1, 1, 3000), dyInt(1, 3000), false},
		{ivInt(0, 1, 3000), dyInt(1, 3000), false}, {ivInt(-1, 0, 3000), dyInt(1, 3000), false}, {ivInt(1, 2, 2999), dyInt(1, 2999), true}, {ivInt(-3, 3, -3000), dyInt(1, -3000), true},
		{alone(dyInt(1, 1599)), dyInt(1, 0), true}, {alone(dyInt(1, 1600)), dyInt(1, 0), false}, {ordered(impl.Dy{}, dyInt(1, 1600)), dyInt(1, 0), false}, {ordered(dyInt(-1, 1600), impl.Dy{}), dyInt(1, 0), false},
		{alone(most), dyInt(1, 0), true}, {alone(most), dyInt(2, 0), false}, {ordered(most, impl.DyNeg(most)), dyInt(1, 0), true}, {ordered(most, dyInt(-1, 1600)), dyInt(1, 0), false},
		{alone(dyInt(1, 0)), dyInt(1, 1600), false}, {alone(dyInt(1, 1)), dyInt(1, 1600), true}, {alone(most), impl.Dy{}, true}, {alone(dy(mostNat(), 3000)), impl.Dy{}, true}, {alone(dy(mostNat(), -3000)), impl.Dy{}, true},
		{alone(dyInt(1, 3000)), dyInt(1, -3000), false}, {alone(dyInt(1, -3000)), dyInt(1, 3000), false}, {alone(dyInt(1, -3000)), dyInt(1, -1401), true}, {alone(dyInt(1, -3000)), dyInt(1, -1400), false},
	}
}

func TestIvMatFatThatMayNotBeTold(t *testing.T) {
	for _, row := range fatRows() {
		eachPlace(func(n int, place int) {
			a := withIv(sameIvs(n, alone(row.by)), place, row.v)
			// Twice by may not be told where by is at its limit.
			if double, ok := impl.DyAdd(row.by, row.by); !ok || len(double.M.A.L) == 0 {
				a = withIv(sameIvs(n, impl.Iv{}), place, row.v)
			}
			if _, ok := sameFat(t, a, row.by); ok != row.ok {
				t.Fatal(row, n, place, ok)
			}
		})
	}
}

func TestIvMatFatByLessThanNought(t *testing.T) {
	bys := []impl.Dy{dyInt(-1, 0), dyInt(-1, -3000), dyInt(-1, 3000), dyInt(-3, 5), dy(minus(mostNat()), 0)}
	for n := 1; n <= impl.MaxN; n++ {
		for _, a := range []impl.IvMat{sameIvs(n, impl.Iv{}), sameIvs(n, ivInt(-9, 9, 0)), sameIvs(n, ivInt(-1, 1, 3000)), sameIvs(n, ivInt(1, 1, -3000))} {
			for _, by := range bys {
				got, ok := impl.IvMatFat(a, by)
				refusedIvMat(t, fmt.Sprint("IvMatFat by ", by), got, ok)
			}
			got, ok := impl.IvMatFat(a, impl.Dy{})
			sameAsIvMat(t, "IvMatFat by nothing", got, ok, a)
			got, ok = impl.IvMatFat(a, impl.Dy{M: impl.Whole{A: impl.Nat{L: []int{}}}})
			sameAsIvMat(t, "IvMatFat by nothing", got, ok, a)
		}
	}
}

// The middle alone must be told, the sum of both ends not.
func TestIvMatMiddlesThatMayNotBeTold(t *testing.T) {
	most := dy(mostNat(), 0)
	rows := []struct {
		v  impl.Iv
		ok bool
	}{
		{alone(dyInt(1, 3000)), true}, {alone(dyInt(-1, 3000)), true}, {alone(dy(mostNat(), 3000)), true}, {alone(dyInt(1, -3000)), true}, {alone(dy(mostNat(), -3000)), true}, {ivInt(1, 3, 3000), false},
		{ivInt(-3, -1, 3000), false}, {ivInt(1, 5, 3000), true}, {ivInt(-1, 1, 3000), true}, {ivInt(0, 1, 3000), true}, {ivInt(0, 1, -3000), false}, {ivInt(-1, 0, -3000), false}, {ivInt(1, 2, -3000), false},
		{ivInt(1, 3, -3000), true}, {ivInt(-1, 1, -3000), true}, {ivInt(0, 1, -2999), true}, {ordered(dyInt(1, 0), dyInt(1, 1599)), true}, {ordered(dyInt(1, 0), dyInt(1, 1600)), false},
		{ordered(dyInt(-1, 0), dyInt(-1, 1600)), false}, {ordered(dyInt(-1, 0), dyInt(1, 1600)), true}, {ordered(dyInt(-1, 0), dyInt(1, 1601)), false}, {ordered(most, dy(plus(mostNat(), -2), 0)), true},
		{ordered(most, dy(plus(mostNat(), -1), 0)), false}, {ordered(most, impl.DyNeg(most)), true}, {ordered(dyInt(1, -3000), dyInt(1, 3000)), false}, {ordered(impl.Dy{}, most), true},
		{ordered(impl.Dy{}, dy(mostNat(), -3000)), false}, {ordered(impl.Dy{}, dy(mostNat(), 3000)), true}, {ordered(dy(mostNat(), 2999), dy(mostNat(), 3000)), false},
	}
	for _, row := range rows {
		eachPlace(func(n int, place int) {
			if ok := sameMiddles(t, withIv(sameIvs(n, ivInt(1, 2, 0)), place, row.v)); ok != row.ok {
				t.Fatal(row, n, place, ok)
			}
		})
	}
}

// widthRow has the intervals of a column, and whether the sum of their widths may be told: the widths may be any.
type widthRow struct {
	list []impl.Iv
	ok   bool
}

func widthRows() []widthRow {
	far, near := ivInt(-1, 1, 3000), ivInt(0, 1, 3000)
	long := ordered(dyInt(-1, 0), dyInt(1, 1600))
	most := dy(mostNat(), 0)
	return []widthRow{
		{[]impl.Iv{near}, true}, {[]impl.Iv{far}, false}, {[]impl.Iv{near, near}, false}, {[]impl.Iv{far, near}, true}, {[]impl.Iv{far, far}, false}, {[]impl.Iv{near, near, near}, true},
		{[]impl.Iv{far, near, {}}, true}, {[]impl.Iv{far, far, near}, true}, {[]impl.Iv{far, far, far}, false}, {[]impl.Iv{far, near, near, near}, true}, {[]impl.Iv{near, near, near, near}, false},
		{[]impl.Iv{long}, false}, {[]impl.Iv{long, ivInt(4, 5, 0)}, true}, {[]impl.Iv{long, ivInt(4, 6, 0)}, false}, {[]impl.Iv{long, long}, false}, {[]impl.Iv{long, ivInt(-1, 0, 0), ivInt(0, 2, 0)}, true},
		{[]impl.Iv{ordered(impl.Dy{}, dyInt(1, 1599)), ivInt(0, 1, 0)}, true}, {[]impl.Iv{ordered(impl.Dy{}, dyInt(1, 1600)), ivInt(0, 1, 0)}, false}, {[]impl.Iv{ordered(impl.Dy{}, most), ivInt(0, 1, 0)}, true},
		{[]impl.Iv{ordered(impl.Dy{}, most), ivInt(0, 2, 0)}, false}, {[]impl.Iv{ordered(impl.DyNeg(most), most)}, true}, {[]impl.Iv{ordered(impl.DyNeg(most), most), ivInt(0, 1, 0)}, false},
		{[]impl.Iv{alone(dyInt(1, 3000)), ivInt(0, 1, -3000)}, true}, {[]impl.Iv{near, ivInt(0, 1, -3000)}, false}, {[]impl.Iv{ivInt(0, 1, -3000), ivInt(-1, 0, -3000)}, true}, {[]impl.Iv{ivInt(-1, 1, -3000)}, true},
	}
}

func TestIvMatWidthsThatMayNotBeTold(t *testing.T) {
	for _, row := range widthRows() {
		n := len(row.list)
		for column := range n {
			for from := range n {
				a := pointsOf(ones(n))
				for i, v := range slices.Concat(row.list[from:], row.list[:from]) {
					a.A[i*n+column] = v
				}
				if ok := sameWide(t, a); ok != row.ok {
					t.Fatal(row, column, from, ok)
				}
			}
		}
	}
}

// Just the greatest sum must be told; those of other columns may be any.
func TestIvMatWideBesideSumsThatMayNotBeTold(t *testing.T) {
	rows := []struct{ less, more [2]impl.Iv }{
		{[2]impl.Iv{ordered(dyInt(-1, 0), dyInt(1, 1600)), {}}, [2]impl.Iv{ordered(impl.Dy{}, dyInt(1, 1601)), {}}}, {[2]impl.Iv{ivInt(0, 1, 2999), ivInt(0, 1, -3000)}, [2]impl.Iv{ivInt(0, 1, 3000), ivInt(2, 2, 0)}},
		{[2]impl.Iv{ivInt(-1, 1, 3000), ivInt(7, 7, 5)}, [2]impl.Iv{ivInt(-1, 1, 3000), ivInt(0, 1, 3000)}}, {[2]impl.Iv{ivInt(0, 1, 3000), ivInt(-1, 0, 3000)}, [2]impl.Iv{ivInt(0, 3, 3000), {}}},
	}
	for _, row := range rows {
		for _, a := range []impl.IvMat{ivMatOf(2, row.less[0], row.more[0], row.less[1], row.more[1]), ivMatOf(2, row.more[1], row.less[1], row.more[0], row.less[0]),
			ivMatOf(3, row.less[0], row.more[0], row.less[1], row.less[1], row.more[1], row.less[0], impl.Iv{}, impl.Iv{}, impl.Iv{})} {
			if !sameWide(t, a) {
				t.Fatal("refused", a)
			}
			got, ok := impl.IvMatWide(ivMatOf(2, row.less[0], impl.Iv{}, row.less[1], impl.Iv{}))
			refusedDy(t, "IvMatWide", got, ok)
		}
	}
}

// Rounded outwards, nothing has more bits than it had, and all may be told.
func TestIvMatOutAtTheEdges(t *testing.T) {
	for _, d := range []impl.Dy{dy(mostNat(), 3000), dy(mostNat(), -3000), dyInt(1, 3000), dyInt(1, -3000), dy(mostNat(), -1800), dy(mostNat(), 199), dy(mostNat(), -201)} {
		for _, v := range append(spans(d), spans(impl.DyNeg(d))...) {
			eachPlace(func(n int, place int) {
				a := withIv(sameIvs(n, ivInt(-1, 1, 0)), place, v)
				for _, low := range []int{-200, -1, 0, 200} {
					sameHeldOut(t, a, low)
				}
			})
		}
	}
}
