package tests

import (
	"fmt"
	"math/big"
	"math/rand"
	"slices"
	"strings"
	"testing"

	"loop.example/g00382/impl"
)

// ivInt has lo times 2^e and hi times 2^e as ends, whether they are in order or not.
func ivInt(lo int, hi int, e int) impl.Iv { return impl.Iv{Lo: dyInt(lo, e), Hi: dyInt(hi, e)} }

// alone has one number alone; its ends share no memory.
func alone(d impl.Dy) impl.Iv {
	return impl.Iv{Lo: dy(bigOfWhole(d.M), d.E), Hi: dy(bigOfWhole(d.M), d.E)}
}

// ordered has both as ends, the less one as Lo.
func ordered(x impl.Dy, y impl.Dy) impl.Iv {
	if scaled(x).Cmp(scaled(y)) > 0 {
		x, y = y, x
	}
	return impl.Iv{Lo: x, Hi: y}
}

func oppositeIv(v impl.Iv) impl.Iv { return impl.Iv{Lo: impl.DyNeg(v.Hi), Hi: impl.DyNeg(v.Lo)} }

func refusedIv(t *testing.T, name string, got impl.Iv, ok bool) {
	t.Helper()
	refusedDy(t, name+", Lo", got.Lo, ok)
	refusedDy(t, name+", Hi", got.Hi, ok)
}

// sameIvTold fails unless got has lo and hi times 2^e as ends where both may be told, else the zero value and false.
func sameIvTold(t *testing.T, name string, got impl.Iv, ok bool, lo *big.Int, hi *big.Int, e int) {
	t.Helper()
	if ok != (dyTellable(lo, e) && dyTellable(hi, e)) {
		t.Fatalf("%s: %t, of %v and %v times 2^%d", name, ok, lo, hi, e)
	}
	if !ok {
		refusedIv(t, name, got, ok)
		return
	}
	sameDy(t, name+", Lo", got.Lo, lo, e)
	sameDy(t, name+", Hi", got.Hi, hi, e)
	if !impl.IvOk(got) {
		t.Fatal(name, "is not IvOk")
	}
}

func sameAsIv(t *testing.T, name string, got impl.Iv, ok bool, want impl.Iv) {
	t.Helper()
	sameIvTold(t, name, got, ok, scaled(want.Lo), scaled(want.Hi), -impl.MaxE)
}

// smallIvs has all intervals with ends in -far .. far times 2^e.
func smallIvs(far int, e int) []impl.Iv {
	var list []impl.Iv
	for lo := -far; lo <= far; lo++ {
		for hi := lo; hi <= far; hi++ {
			list = append(list, ivInt(lo, hi, e))
		}
	}
	return list
}

// farIvs has numbers alone, narrow and wide intervals, below 0, above 0 and with 0 in them, of all lengths and powers.
func farIvs() []impl.Iv {
	numbers := manyDys()
	list := []impl.Iv{alone(impl.Dy{})}
	for i, x := range numbers {
		list = append(list, ordered(x, numbers[(7*i+3)%len(numbers)]))
		switch i % 4 {
		case 0:
			list = append(list, alone(x))
		case 1:
			list = append(list, ordered(x, impl.Dy{}))
		case 2:
			list = append(list, ordered(x, nextTo(x)))
		}
	}
	return list
}

// nextTo is so near to x that its power of two tells it apart, or its lowest bits do.
func nextTo(x impl.Dy) impl.Dy {
	m := bigOfWhole(x.M)
	if m.BitLen() < natBits && x.E > -impl.MaxE {
		return dy(plus(new(big.Int).Lsh(m, 1), 1), x.E-1)
	}
	return dy(plus(m, int64(-2*m.Sign())), x.E)
}

// someIv is an interval of any kind, with ends of some limbs.
func someIv(source *rand.Rand, limbs int, far int) impl.Iv {
	x, y := someDy(source, limbs, far), someDy(source, limbs, far)
	switch source.Intn(6) {
	case 0:
		y = alone(x).Lo
	case 1:
		y = nextTo(x)
	case 2:
		x.M.Neg = false
		y.M.Neg = false
	case 3:
		x.M.Neg = len(x.M.A.L) > 0
		y.M.Neg = len(y.M.A.L) > 0
	case 4:
		y = impl.Dy{}
	}
	return ordered(x, y)
}

// inside has numbers of v times 2^MaxE: both ends, the middle, 0 if v has it, and some others.
func inside(source *rand.Rand, v impl.Iv) []*big.Int {
	lo, hi := scaled(v.Lo), scaled(v.Hi)
	list := []*big.Int{lo, hi}
	wide := new(big.Int).Sub(hi, lo)
	if wide.Sign() == 0 {
		return list
	}
	list = append(list, new(big.Int).Add(lo, new(big.Int).Rsh(wide, 1)), plus(lo, 1), plus(hi, -1))
	for range 2 {
		list = append(list, new(big.Int).Add(lo, new(big.Int).Rand(source, wide)))
	}
	if lo.Sign() <= 0 && hi.Sign() >= 0 {
		list = append(list, new(big.Int))
	}
	return list
}

func hasScaled(v impl.Iv, x *big.Int) bool {
	return scaled(v.Lo).Cmp(x) <= 0 && scaled(v.Hi).Cmp(x) >= 0
}

// badIvs has every way of not being IvOk: an end that is not DyOk, at either place and at both, and Lo above Hi.
func badIvs() []impl.Iv {
	var list []impl.Iv
	good := []impl.Dy{{}, dyInt(-1, impl.MaxE), dyInt(1, impl.MaxE)}
	for _, bad := range badDys() {
		for _, d := range good {
			list = append(list, impl.Iv{Lo: bad, Hi: d}, impl.Iv{Lo: d, Hi: bad})
		}
		list = append(list, impl.Iv{Lo: bad, Hi: bad})
	}
	least := -impl.MaxE
	return append(list, ivInt(1, 0, 0), ivInt(0, -1, 0), ivInt(1, -1, 0), ivInt(3, 2, 0), ivInt(-2, -3, 0), ivInt(1, 0, least), ivInt(0, -1, least), ivInt(3, 2, least),
		ivInt(-2, -3, least), ivInt(1, 0, impl.MaxE), ivInt(1, -1, impl.MaxE), impl.Iv{Lo: dy(mostNat(), 0), Hi: dy(plus(mostNat(), -1), 0)},
		impl.Iv{Lo: dyInt(1, 3), Hi: dyInt(7, 0)}, impl.Iv{Lo: dyInt(1, -1), Hi: dyInt(1, -2)}, impl.Iv{Lo: dyInt(-1, -2), Hi: dyInt(-1, -1)})
}

func TestIvOk(t *testing.T) {
	if impl.MaxFine != 200 {
		t.Fatal(impl.MaxFine)
	}
	for _, v := range slices.Concat(smallIvs(5, 0), smallIvs(4, -impl.MaxE), farIvs()) {
		if !impl.IvOk(v) {
			t.Fatal(v)
		}
	}
	for _, v := range badIvs() {
		if impl.IvOk(v) {
			t.Fatal(v)
		}
	}
	if !impl.IvOk(impl.Iv{}) || !impl.IvOk(impl.Iv{Lo: impl.Dy{M: impl.Whole{A: impl.Nat{L: []int{}}}}}) {
		t.Fatal("0 alone")
	}
}

func TestIvOf(t *testing.T) {
	numbers := manyDys()
	for _, x := range numbers {
		for _, y := range numbers {
			got, ok := impl.IvOf(x, y)
			if scaled(x).Cmp(scaled(y)) > 0 {
				refusedIv(t, "IvOf", got, ok)
				continue
			}
			sameIvTold(t, "IvOf", got, ok, scaled(x), scaled(y), -impl.MaxE)
		}
	}
	for _, v := range badIvs() {
		got, ok := impl.IvOf(v.Lo, v.Hi)
		refusedIv(t, "IvOf", got, ok)
	}
}

func TestIvHas(t *testing.T) {
	numbers := manyDys()
	for _, v := range farIvs() {
		for _, x := range append(slices.Clone(numbers), v.Lo, v.Hi, nextTo(v.Lo), nextTo(v.Hi)) {
			if impl.IvHas(v, x) != hasScaled(v, scaled(x)) {
				t.Fatal(v, x)
			}
		}
	}
	for lo := -4; lo <= 4; lo++ {
		for hi := -4; hi <= 4; hi++ {
			for x := -5; x <= 5; x++ {
				for _, e := range []int{0, -7, -impl.MaxE, impl.MaxE - 2} {
					if impl.IvHas(ivInt(lo, hi, e), dyInt(x, e)) != (lo <= x && x <= hi) {
						t.Fatal(lo, hi, x, e)
					}
				}
			}
		}
	}
	for _, x := range badDys() {
		for _, v := range []impl.Iv{{}, ivInt(-1, 1, impl.MaxE), alone(x)} {
			if impl.IvHas(v, x) {
				t.Fatal(v, x)
			}
		}
	}
	for _, v := range badIvs() {
		for _, x := range []impl.Dy{{}, dyInt(1, -1), dyInt(3, 0), dyInt(-2, 0), v.Lo, v.Hi} {
			if impl.IvHas(v, x) {
				t.Fatal(v, x)
			}
		}
	}
}

func TestIvWithin(t *testing.T) {
	for _, list := range [][]impl.Iv{smallIvs(4, 0), smallIvs(3, -impl.MaxE), smallIvs(3, impl.MaxE-2), farIvs()} {
		for i, a := range list {
			for j, b := range list {
				if len(list) > 100 && (i+j)%5 != 0 {
					continue
				}
				want := scaled(b.Lo).Cmp(scaled(a.Lo)) <= 0 && scaled(a.Hi).Cmp(scaled(b.Hi)) <= 0
				if impl.IvWithin(a, b) != want {
					t.Fatal(a, b)
				}
				if want != (impl.IvHas(b, a.Lo) && impl.IvHas(b, a.Hi)) {
					t.Fatal(a, b, "by its ends")
				}
			}
		}
	}
}

// sameMeet asks for what both have: each number is in the answer just if it is in both.
func sameMeet(t *testing.T, a impl.Iv, b impl.Iv) {
	t.Helper()
	got, ok := impl.IvMeet(a, b)
	lo, hi := scaled(a.Lo), scaled(a.Hi)
	if other := scaled(b.Lo); other.Cmp(lo) > 0 {
		lo = other
	}
	if other := scaled(b.Hi); other.Cmp(hi) < 0 {
		hi = other
	}
	name := fmt.Sprintf("IvMeet of %v and %v", a, b)
	if lo.Cmp(hi) > 0 {
		refusedIv(t, name, got, ok)
	} else {
		sameIvTold(t, name, got, ok, lo, hi, -impl.MaxE)
		if !impl.IvWithin(got, a) || !impl.IvWithin(got, b) {
			t.Fatal(name, "is not in both")
		}
	}
	for _, x := range []impl.Dy{a.Lo, a.Hi, b.Lo, b.Hi} {
		if (ok && impl.IvHas(got, x)) != (impl.IvHas(a, x) && impl.IvHas(b, x)) {
			t.Fatal(name, "and", x)
		}
	}
}

// sameJoin asks for an interval that has both, with ends that are theirs.
func sameJoin(t *testing.T, a impl.Iv, b impl.Iv) {
	t.Helper()
	got, ok := impl.IvJoin(a, b)
	lo, hi := scaled(a.Lo), scaled(a.Hi)
	if other := scaled(b.Lo); other.Cmp(lo) < 0 {
		lo = other
	}
	if other := scaled(b.Hi); other.Cmp(hi) > 0 {
		hi = other
	}
	name := fmt.Sprintf("IvJoin of %v and %v", a, b)
	sameIvTold(t, name, got, ok, lo, hi, -impl.MaxE)
	if !impl.IvWithin(a, got) || !impl.IvWithin(b, got) {
		t.Fatal(name, "has not both")
	}
	if !equalDys(got.Lo, a.Lo) && !equalDys(got.Lo, b.Lo) || !equalDys(got.Hi, a.Hi) && !equalDys(got.Hi, b.Hi) {
		t.Fatal(name, "has other ends")
	}
}

func TestIvMeetAndJoin(t *testing.T) {
	for _, list := range [][]impl.Iv{smallIvs(4, 0), smallIvs(3, -impl.MaxE), smallIvs(3, impl.MaxE-2)} {
		for _, a := range list {
			for _, b := range list {
				sameMeet(t, a, b)
				sameJoin(t, a, b)
			}
		}
	}
	list := farIvs()
	for i, a := range list {
		for j, b := range list {
			if (i+j)%13 == 0 || i == j {
				sameMeet(t, a, b)
				sameJoin(t, a, b)
			}
		}
	}
}

func TestIvMeetLiterals(t *testing.T) {
	least := dyInt(1, -impl.MaxE)
	one := dyInt(1, 0)
	above, _ := impl.DyAdd(dyInt(1, -1500), least)
	rows := []struct {
		a, b, want impl.Iv
		ok         bool
	}{
		{ivInt(-3, 1, 0), ivInt(1, 4, 0), ivInt(1, 1, 0), true}, {ivInt(-3, 1, 0), ivInt(2, 4, 0), impl.Iv{}, false},
		{ivInt(-3, 0, 0), ivInt(0, 4, 0), impl.Iv{}, true}, {ivInt(-3, 0, 0), impl.Iv{Lo: least, Hi: one}, impl.Iv{}, false},
		{impl.Iv{Lo: impl.DyNeg(one), Hi: impl.DyNeg(least)}, ivInt(0, 1, 0), impl.Iv{}, false},
		{impl.Iv{Lo: impl.DyNeg(one), Hi: least}, impl.Iv{Lo: least, Hi: one}, alone(least), true},
		{impl.Iv{Lo: impl.Dy{}, Hi: dyInt(1, -1500)}, impl.Iv{Lo: above, Hi: one}, impl.Iv{}, false},
		{impl.Iv{Lo: impl.Dy{}, Hi: above}, impl.Iv{Lo: above, Hi: one}, alone(above), true},
		{ivInt(2, 2, 0), ivInt(2, 2, 0), ivInt(2, 2, 0), true}, {ivInt(2, 2, 0), ivInt(3, 3, 0), impl.Iv{}, false}, {ivInt(-9, 9, 0), ivInt(-1, 2, 0), ivInt(-1, 2, 0), true},
		{impl.Iv{Lo: dyInt(-1, 3000), Hi: dyInt(1, 3000)}, impl.Iv{Lo: impl.DyNeg(least), Hi: least}, impl.Iv{Lo: impl.DyNeg(least), Hi: least}, true},
	}
	for _, row := range rows {
		for _, pair := range [][2]impl.Iv{{row.a, row.b}, {row.b, row.a}} {
			got, ok := impl.IvMeet(pair[0], pair[1])
			if ok != row.ok {
				t.Fatal(row)
			}
			if !ok {
				refusedIv(t, "IvMeet", got, ok)
				continue
			}
			sameAsIv(t, "IvMeet", got, ok, row.want)
		}
	}
}

// ivOperation makes, of two numbers times 2^MaxE, one that is times 2^-e.
type ivOperation struct {
	name string
	e    int
	iv   func(a impl.Iv, b impl.Iv) (impl.Iv, bool)
	dy   func(x impl.Dy, y impl.Dy) (impl.Dy, bool)
	big  func(x *big.Int, y *big.Int) *big.Int
}

func ivOperations() []ivOperation {
	return []ivOperation{
		{"IvAdd", -impl.MaxE, impl.IvAdd, impl.DyAdd, func(x, y *big.Int) *big.Int { return new(big.Int).Add(x, y) }},
		{"IvSub", -impl.MaxE, impl.IvSub, impl.DySub, func(x, y *big.Int) *big.Int { return new(big.Int).Sub(x, y) }},
		{"IvMul", -2 * impl.MaxE, impl.IvMul, impl.DyMul, func(x, y *big.Int) *big.Int { return new(big.Int).Mul(x, y) }},
	}
}

// extremesOf is the least and the greatest of what the four pairs of ends make.
func extremesOf(a impl.Iv, b impl.Iv, do func(x *big.Int, y *big.Int) *big.Int) (*big.Int, *big.Int) {
	var lo, hi *big.Int
	for _, x := range []*big.Int{scaled(a.Lo), scaled(a.Hi)} {
		for _, y := range []*big.Int{scaled(b.Lo), scaled(b.Hi)} {
			made := do(x, y)
			if lo == nil || made.Cmp(lo) < 0 {
				lo = made
			}
			if hi == nil || made.Cmp(hi) > 0 {
				hi = made
			}
		}
	}
	return lo, hi
}

func (o ivOperation) same(t *testing.T, a impl.Iv, b impl.Iv) (impl.Iv, bool) {
	t.Helper()
	got, ok := o.iv(a, b)
	lo, hi := extremesOf(a, b, o.big)
	sameIvTold(t, fmt.Sprintf("%s of %v and %v", o.name, a, b), got, ok, lo, hi, o.e)
	return got, ok
}

// holds is the promise: what two numbers of both make lies in the answer. (Their least and greatest ones are its ends.)
func (o ivOperation) holds(t *testing.T, source *rand.Rand, a impl.Iv, b impl.Iv) {
	t.Helper()
	got, ok := o.same(t, a, b)
	if !ok {
		return
	}
	room := uint(-o.e - impl.MaxE)
	lo, hi := new(big.Int).Lsh(scaled(got.Lo), room), new(big.Int).Lsh(scaled(got.Hi), room)
	for _, x := range inside(source, a) {
		for _, y := range inside(source, b) {
			if made := o.big(x, y); made.Cmp(lo) < 0 || made.Cmp(hi) > 0 {
				t.Fatal(o.name, a, b, "has not what is made of", x, y)
			}
			if !dyTellable(x, -impl.MaxE) || !dyTellable(y, -impl.MaxE) {
				continue
			}
			if made, is := o.dy(dy(x, -impl.MaxE), dy(y, -impl.MaxE)); is && !impl.IvHas(got, made) {
				t.Fatal(o.name, a, b, "has not", made)
			}
		}
	}
}

// gridExtremes is the least and the greatest of what do makes of all whole numbers in both spans.
func gridExtremes(lo int, hi int, least int, most int, do func(x int, y int) int) (int, int) {
	less, more := do(lo, least), do(lo, least)
	for x := lo; x <= hi; x++ {
		for y := least; y <= most; y++ {
			less, more = min(less, do(x, y)), max(more, do(x, y))
		}
	}
	return less, more
}

func TestIvOfAllNumbersOfSmallOnes(t *testing.T) {
	const far = 5
	rows := []struct {
		name string
		e    int
		iv   func(a impl.Iv, b impl.Iv) (impl.Iv, bool)
		do   func(x int, y int) int
	}{
		{"IvAdd", -1, impl.IvAdd, func(x, y int) int { return x + y }}, {"IvSub", -1, impl.IvSub, func(x, y int) int { return x - y }},
		{"IvMul", -2, impl.IvMul, func(x, y int) int { return x * y }},
	}
	for _, row := range rows {
		for lo := -far; lo <= far; lo++ {
			for hi := lo; hi <= far; hi++ {
				for least := -far; least <= far; least++ {
					for most := least; most <= far; most++ {
						got, ok := row.iv(ivInt(lo, hi, -1), ivInt(least, most, -1))
						less, more := gridExtremes(lo, hi, least, most, row.do)
						name := fmt.Sprint(row.name, " of ", lo, hi, least, most)
						sameIvTold(t, name, got, ok, big.NewInt(int64(less)), big.NewInt(int64(more)), row.e)
					}
				}
			}
		}
	}
}

func TestIvOperationsOnFarOnes(t *testing.T) {
	source := rand.New(rand.NewSource(70))
	list := farIvs()
	told := 0
	for i, a := range list {
		for j, b := range list {
			if (3*i+j)%19 != 0 && i != j {
				continue
			}
			for _, o := range ivOperations() {
				if _, ok := o.same(t, a, b); ok {
					told++
				}
				if (i+j)%11 == 0 {
					o.holds(t, source, a, b)
				}
			}
		}
	}
	if told < 1000 {
		t.Fatal("few answers are told:", told)
	}
}

func TestIvOperationsAtRandom(t *testing.T) {
	source := rand.New(rand.NewSource(71))
	for i := range 600 {
		limbs, far := []int{1, 3, 20}[i%3], []int{3, 40, 300}[i/3%3]
		a, b := someIv(source, limbs, far), someIv(source, limbs, far)
		for _, o := range ivOperations() {
			o.holds(t, source, a, b)
			o.holds(t, source, a, a)
		}
	}
}

func TestIvOperationsLiterals(t *testing.T) {
	rows := []struct {
		a, b, sum, rest, product [2]int
	}{
		{[2]int{-2, 3}, [2]int{1, 4}, [2]int{-1, 7}, [2]int{-6, 2}, [2]int{-8, 12}},
		{[2]int{-2, 3}, [2]int{-5, 4}, [2]int{-7, 7}, [2]int{-6, 8}, [2]int{-15, 12}},
		{[2]int{-4, 3}, [2]int{-5, 2}, [2]int{-9, 5}, [2]int{-6, 8}, [2]int{-15, 20}},
		{[2]int{-3, 5}, [2]int{-2, 4}, [2]int{-5, 9}, [2]int{-7, 7}, [2]int{-12, 20}},
		{[2]int{-3, 2}, [2]int{-1, 7}, [2]int{-4, 9}, [2]int{-10, 3}, [2]int{-21, 14}},
		{[2]int{-3, -2}, [2]int{-7, -5}, [2]int{-10, -7}, [2]int{2, 5}, [2]int{10, 21}},
		{[2]int{-3, -2}, [2]int{5, 7}, [2]int{2, 5}, [2]int{-10, -7}, [2]int{-21, -10}},
		{[2]int{2, 3}, [2]int{5, 7}, [2]int{7, 10}, [2]int{-5, -2}, [2]int{10, 21}},
		{[2]int{-3, -2}, [2]int{-7, 5}, [2]int{-10, 3}, [2]int{-8, 5}, [2]int{-15, 21}},
		{[2]int{0, 3}, [2]int{-7, 5}, [2]int{-7, 8}, [2]int{-5, 10}, [2]int{-21, 15}},
		{[2]int{-3, 0}, [2]int{0, 5}, [2]int{-3, 5}, [2]int{-8, 0}, [2]int{-15, 0}},
		{[2]int{0, 0}, [2]int{-7, 5}, [2]int{-7, 5}, [2]int{-5, 7}, [2]int{0, 0}},
		{[2]int{0, 0}, [2]int{0, 0}, [2]int{0, 0}, [2]int{0, 0}, [2]int{0, 0}},
		{[2]int{6, 6}, [2]int{-6, -6}, [2]int{0, 0}, [2]int{12, 12}, [2]int{-36, -36}},
		{[2]int{-1, 1}, [2]int{-1, 1}, [2]int{-2, 2}, [2]int{-2, 2}, [2]int{-1, 1}},
	}
	for _, row := range rows {
		a, b := ivInt(row.a[0], row.a[1], 0), ivInt(row.b[0], row.b[1], 0)
		got, ok := impl.IvAdd(a, b)
		sameAsIv(t, fmt.Sprint("IvAdd ", row), got, ok, ivInt(row.sum[0], row.sum[1], 0))
		got, ok = impl.IvAdd(b, a)
		sameAsIv(t, fmt.Sprint("IvAdd ", row), got, ok, ivInt(row.sum[0], row.sum[1], 0))
		got, ok = impl.IvSub(a, b)
		sameAsIv(t, fmt.Sprint("IvSub ", row), got, ok, ivInt(row.rest[0], row.rest[1], 0))
		got, ok = impl.IvSub(b, a)
		sameAsIv(t, fmt.Sprint("IvSub ", row), got, ok, ivInt(-row.rest[1], -row.rest[0], 0))
		got, ok = impl.IvMul(a, b)
		sameAsIv(t, fmt.Sprint("IvMul ", row), got, ok, ivInt(row.product[0], row.product[1], 0))
		got, ok = impl.IvMul(b, a)
		sameAsIv(t, fmt.Sprint("IvMul ", row), got, ok, ivInt(row.product[0], row.product[1], 0))
		got, ok = impl.IvMul(oppositeIv(a), b)
		sameAsIv(t, fmt.Sprint("IvMul ", row), got, ok, ivInt(-row.product[1], -row.product[0], 0))
	}
}

// toldRow says whether both ends may be told; the same holds of the opposites.
type toldRow struct {
	name string
	call func(a impl.Iv, b impl.Iv) (impl.Iv, bool)
	a, b impl.Iv
	ok   bool
}

func toldRows() []toldRow {
	span := func(lo, hi impl.Dy) impl.Iv { return impl.Iv{Lo: lo, Hi: hi} }
	two := func(e int) impl.Dy { return dyInt(1, e) }
	less := func(e int) impl.Dy { return dyInt(-1, e) }
	zero, one := impl.Dy{}, dyInt(1, 0)
	long := dy(plus(new(big.Int).Lsh(big.NewInt(1), 800), 1), 0)
	short := dy(plus(new(big.Int).Lsh(big.NewInt(1), 800), -1), 0)
	most := dy(mostNat(), 0)
	return []toldRow{
		{"a sum of 1600 bits", impl.IvAdd, span(zero, two(1599)), alone(one), true},
		{"an upper sum of 1601 bits", impl.IvAdd, span(zero, two(1600)), alone(one), false},
		{"a lower sum of 1601 bits", impl.IvAdd, span(two(1600), two(1601)), span(one, two(1600)), false},
		{"a sum of other ends would have 1601 bits", impl.IvAdd, span(zero, two(1600)), span(one, two(1600)), true},
		{"an upper sum beyond MaxE", impl.IvAdd, span(zero, two(3000)), span(zero, two(3000)), false},
		{"a lower sum beyond MaxE", impl.IvAdd, span(less(3000), zero), span(less(3000), zero), false},
		{"sums of MaxE", impl.IvAdd, span(less(2999), two(2999)), span(less(2999), two(2999)), true},
		{"sums of -MaxE", impl.IvAdd, span(less(-3000), two(-3000)), span(less(-3000), two(-3000)), true},
		{"a sum of MaxLimbs", impl.IvAdd, alone(most), alone(one), true},
		{"a difference of 1600 bits", impl.IvSub, span(zero, two(1599)), alone(dyInt(-1, 0)), true},
		{"an upper difference of 1601 bits", impl.IvSub, span(zero, two(1600)), span(dyInt(-1, 0), one), false},
		{"a lower difference of 1601 bits", impl.IvSub, span(dyInt(-2, 0), two(1600)), span(zero, most), false},
		{"a difference of Lo and Lo would have 1601 bits", impl.IvSub, span(one, two(10)), span(less(1600), zero), true},
		{"a difference of Hi and Hi would have 1601 bits", impl.IvSub, span(zero, two(1600)), span(less(10), less(0)), true},
		{"an upper difference beyond MaxE", impl.IvSub, span(zero, two(3000)), span(less(3000), zero), false},
		{"a lower difference beyond MaxE", impl.IvSub, span(less(3000), zero), span(zero, two(3000)), false},
		{"differences of MaxE", impl.IvSub, span(less(2999), two(2999)), span(less(2999), two(2999)), true},
		{"products of MaxE and -MaxE", impl.IvMul, span(two(-1500), two(1500)), span(two(-1500), two(1500)), true},
		{"an upper product beyond MaxE", impl.IvMul, span(zero, two(1500)), span(zero, two(1501)), false},
		{"a lower product beyond MaxE", impl.IvMul, span(less(1500), zero), span(zero, two(1501)), false},
		{"a lower product below -MaxE", impl.IvMul, span(two(-1500), one), span(two(-1501), one), false},
		{"an upper product below -MaxE", impl.IvMul, span(less(-1500), zero), span(less(-1501), one), false},
		{"a product of 1600 bits", impl.IvMul, span(zero, long), span(zero, short), true},
		{"an upper product of 1601 bits", impl.IvMul, span(zero, long), span(zero, long), false},
		{"a lower product of 1601 bits", impl.IvMul, span(long, two(801)), span(long, two(801)), false},
		{"a lower product of 1601 bits, below 0", impl.IvMul, span(impl.DyNeg(long), zero), span(zero, long), false},
		{"a product between them of 1601 bits", impl.IvMul, span(zero, long), span(long, two(1000)), true},
		{"a product between them below -MaxE", impl.IvMul, span(zero, two(-1501)), span(two(-1500), one), true},
		{"a product between them beyond MaxE", impl.IvMul, span(zero, two(1500)), span(two(1501), dy(plus(new(big.Int).Lsh(big.NewInt(1), 100), 1), 1490)), true},
		{"two products between them of 1601 bits", impl.IvMul, span(impl.DyNeg(long), two(900)), span(impl.DyNeg(long), two(1000)), true},
	}
}

func TestIvMayNotBeTold(t *testing.T) {
	for _, row := range toldRows() {
		for turn := range 2 {
			a, b := row.a, row.b
			if turn == 1 {
				a = oppositeIv(a)
			}
			if turn == 1 && !strings.Contains(row.name, "product") {
				b = oppositeIv(b)
			}
			got, ok := row.call(a, b)
			if ok != row.ok || !impl.IvOk(a) || !impl.IvOk(b) {
				t.Fatal(row.name, turn, got, ok)
			}
			if !ok {
				refusedIv(t, row.name, got, ok)
			}
		}
	}
	for _, row := range toldRows() {
		for _, o := range ivOperations() {
			o.same(t, row.a, row.b)
			o.same(t, row.b, row.a)
		}
	}
}

func TestIvWide(t *testing.T) {
	for _, v := range slices.Concat(smallIvs(5, 0), smallIvs(4, -impl.MaxE), smallIvs(4, impl.MaxE-2), farIvs()) {
		got, ok := impl.IvWide(v)
		sameDyTold(t, fmt.Sprint("IvWide of ", v), got, ok, new(big.Int).Sub(scaled(v.Hi), scaled(v.Lo)), -impl.MaxE)
	}
	source := rand.New(rand.NewSource(72))
	for range 500 {
		v := someIv(source, 10, 200)
		got, ok := impl.IvWide(v)
		sameDyTold(t, fmt.Sprint("IvWide of ", v), got, ok, new(big.Int).Sub(scaled(v.Hi), scaled(v.Lo)), -impl.MaxE)
	}
	rows := []struct {
		v  impl.Iv
		ok bool
	}{
		{ivInt(0, 0, 0), true}, {ivInt(-1, 1, 2999), true}, {ivInt(-1, 1, 3000), false}, {impl.Iv{Lo: dyInt(-1, 2999), Hi: dyInt(1, 3000)}, true}, {impl.Iv{Lo: dyInt(-1, 0), Hi: dyInt(1, 1599)}, true},
		{impl.Iv{Lo: dyInt(-1, 0), Hi: dyInt(1, 1600)}, false}, {impl.Iv{Lo: dyInt(1, 0), Hi: dyInt(1, 1600)}, true}, {impl.Iv{Lo: dyInt(-1, -3000), Hi: dyInt(1, 3000)}, false},
		{alone(dyInt(3, 3000)), true}, {impl.Iv{Lo: dy(minus(mostNat()), 0), Hi: dy(mostNat(), 0)}, true}, {impl.Iv{Lo: dyInt(-2, 0), Hi: dy(mostNat(), 0)}, false},
	}
	for i, row := range rows {
		got, ok := impl.IvWide(row.v)
		if ok != row.ok {
			t.Fatal(i, got, ok)
		}
		if !ok {
			refusedDy(t, "IvWide", got, ok)
		}
	}
}
