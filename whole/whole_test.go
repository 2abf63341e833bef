package whole_test

import (
	"math"
	"math/big"
	"slices"
	"testing"

	"porism/api"
	"porism/whole"
)

const top = math.MaxUint32

// number tells in the library's numbers what an Int stands for: the tests' other way to work things out.
func number(x api.Int) *big.Int {
	bytes := make([]byte, 0, 4*len(x.Mag))
	for i := len(x.Mag) - 1; i >= 0; i-- {
		limb := x.Mag[i]
		bytes = append(bytes, byte(limb>>24), byte(limb>>16), byte(limb>>8), byte(limb))
	}
	n := new(big.Int).SetBytes(bytes)
	if x.Neg {
		n.Neg(n)
	}
	return n
}

// asInt tells the canonical Int of one of the library's numbers.
func asInt(n *big.Int) api.Int {
	x := api.Int{Neg: n.Sign() < 0}
	bytes := n.Bytes()
	for at := len(bytes); at > 0; at -= 4 {
		limb := uint32(0)
		for _, b := range bytes[max(at-4, 0):at] {
			limb = limb<<8 | uint32(b)
		}
		x.Mag = append(x.Mag, limb)
	}
	return x
}

// canonical tells whether it is; the tests' own way.
func canonical(x api.Int) bool {
	n := len(x.Mag)
	return n == 0 && !x.Neg || n > 0 && x.Mag[n-1] != 0
}

// told fails unless got is canonical and stands for want.
func told(t *testing.T, what string, got api.Int, want *big.Int) {
	t.Helper()
	if !canonical(got) {
		t.Errorf("%s: %v is not canonical", what, got)
	}
	if number(got).Cmp(want) != 0 {
		t.Errorf("%s: %v, want %v", what, got, want)
	}
}

// nothing fails unless an error is told alone.
func nothing(t *testing.T, what string, got, want api.Errno, list ...api.Int) {
	t.Helper()
	if got != want {
		t.Errorf("%s: error %d, want %d", what, got, want)
	}
	for _, x := range list {
		if x.Neg || len(x.Mag) != 0 {
			t.Errorf("%s: %v beside an error", what, x)
		}
	}
}

// edges are numbers at which signs and lengths change, with each sign; some are not canonical.
func edges() []api.Int {
	var list []api.Int
	for _, mag := range [][]uint32{
		nil, {}, {0}, {0, 0, 0},
		{1}, {2}, {3}, {5, 0}, {6}, {12}, {18}, {35}, {1, 0, 0}, {1<<31 - 1}, {1 << 31}, {1<<31 + 1}, {top - 1}, {top}, {top, 0},
		{0, 1}, {1, 1}, {0, 1, 0}, {top, 1}, {top, 1<<31 - 1}, {top - 1, 1<<31 - 1}, {top, 1<<31 - 1, 0}, {0, 1 << 31}, {0, 1 << 31, 0}, {1, 1 << 31}, {0, top}, {top - 1, top}, {top, top}, {top, top, 0, 0},
		{0, 0, 1}, {1, 0, 1}, {0, 1 << 31, 1}, {0, 1, 1}, {top, 0, top}, {top, top, top}, {0, 0, 0, 1}, {0, 0, 0, 6}, {0, 0, 12, 0},
		{top, 0, 0, 7}, {0, 0, top, top, 0}, {top, top, top, top, 1},
	} {
		list = append(list, api.Int{Mag: mag}, api.Int{Neg: true, Mag: mag})
	}
	return list
}

// source tells numbers by a rule: the same ones at each run.
func source() func() uint32 {
	seed := uint64(0x9e3779b97f4a7c15)
	return func() uint32 {
		seed ^= seed << 13
		seed ^= seed >> 7
		seed ^= seed << 17
		return uint32(seed >> 16)
	}
}

// made is a number of at most n limbs, with many noughts and full ones.
func made(n int, next func() uint32) api.Int {
	x := api.Int{Neg: next()%2 == 0, Mag: make([]uint32, n)}
	for i := range x.Mag {
		switch next() % 6 {
		case 0:
			x.Mag[i] = 0
		case 1:
			x.Mag[i] = top
		default:
			x.Mag[i] = next()
		}
	}
	return x
}

// some are many numbers of few limbs.
func some(n, limbs int) []api.Int {
	next := source()
	list := make([]api.Int, n)
	for i := range list {
		list[i] = made(int(next())%(limbs+1), next)
	}
	return list
}

// pairs hands on all pairs of edges, and many others.
func pairs(yield func(x, y api.Int)) {
	for _, x := range edges() {
		for _, y := range edges() {
			yield(x, y)
		}
	}
	list := some(4000, 12)
	for i := range len(list) - 1 {
		yield(list[i], list[i+1])
	}
}

// singles hands on all edges, and many others.
func singles(yield func(x api.Int)) {
	for _, x := range append(edges(), some(2000, 12)...) {
		yield(x)
	}
}

func TestExamples(t *testing.T) {
	q, r, e := whole.DivMod(whole.Of(-7), whole.Of(2))
	if e != api.OK || whole.Cmp(q, whole.Of(-3)) != 0 || whole.Cmp(r, whole.Of(-1)) != 0 {
		t.Error("DivMod(-7, 2):", q, r, e)
	}
	if d := whole.Gcd(whole.Of(-12), whole.Of(18)); whole.Cmp(d, whole.Of(6)) != 0 {
		t.Error("Gcd(-12, 18):", d)
	}
	if d := whole.Gcd(whole.Of(0), whole.Of(-5)); whole.Cmp(d, whole.Of(5)) != 0 {
		t.Error("Gcd(0, -5):", d)
	}
	if p, e := whole.Pow(whole.Of(-2), 3); e != api.OK || whole.Cmp(p, whole.Of(-8)) != 0 {
		t.Error("Pow(-2, 3):", p, e)
	}
}

// P4.1
func TestMay(t *testing.T) {
	for _, c := range []struct {
		x    api.Int
		want bool
	}{
		{api.Int{}, true},
		{api.Int{Mag: []uint32{}}, true},
		{api.Int{Neg: true}, false},
		{api.Int{Neg: true, Mag: []uint32{}}, false},
		{api.Int{Mag: []uint32{0}}, false},
		{api.Int{Neg: true, Mag: []uint32{0}}, false},
		{api.Int{Mag: []uint32{1}}, true},
		{api.Int{Neg: true, Mag: []uint32{1}}, true},
		{api.Int{Mag: []uint32{1, 0}}, false},
		{api.Int{Neg: true, Mag: []uint32{1, 0}}, false},
		{api.Int{Mag: []uint32{0, 1}}, true},
		{api.Int{Neg: true, Mag: []uint32{0, 0, top}}, true},
		{api.Int{Mag: []uint32{0, 7, 0, 0}}, false},
	} {
		if got := whole.May(c.x); got != c.want {
			t.Errorf("May(%v): %v", c.x, got)
		}
	}
	singles(func(x api.Int) {
		if whole.May(x) != canonical(x) {
			t.Errorf("May(%v): %v", x, whole.May(x))
		}
	})
}

// P4.1
func TestOf(t *testing.T) {
	for _, n := range []int64{0, 1, -1, 2, -2, 7, 1<<31 - 1, 1 << 31, -1 << 31, top, -top, top + 1, -top - 1, top + 2, math.MaxInt64 - 1, math.MaxInt64, math.MinInt64 + 1, math.MinInt64} {
		x := whole.Of(n)
		told(t, "Of", x, big.NewInt(n))
		if back, ok := whole.Small(x); back != n || !ok {
			t.Errorf("Small(Of(%d)): %d, %v", n, back, ok)
		}
	}
	if x := whole.Of(math.MinInt64); !x.Neg || !slices.Equal(x.Mag, []uint32{0, 1 << 31}) {
		t.Error("Of the least int64:", x)
	}
}

// P4.1: just the numbers from -2^63 to 2^63 - 1 are small, also if their limbs are not canonical.
func TestSmall(t *testing.T) {
	singles(func(x api.Int) {
		want, fits := int64(0), number(x).IsInt64()
		if fits {
			want = number(x).Int64()
		}
		if got, ok := whole.Small(x); got != want || ok != fits {
			t.Errorf("Small(%v): %d, %v, want %d, %v", x, got, ok, want, fits)
		}
	})
}

// P4.1
func TestSignAndCmp(t *testing.T) {
	singles(func(x api.Int) {
		if got, want := whole.Sign(x), number(x).Sign(); got != want {
			t.Errorf("Sign(%v): %d, want %d", x, got, want)
		}
		if got := whole.Cmp(x, x); got != 0 {
			t.Errorf("Cmp of %v and itself: %d", x, got)
		}
	})
	pairs(func(x, y api.Int) {
		if got, want := whole.Cmp(x, y), number(x).Cmp(number(y)); got != want {
			t.Errorf("Cmp(%v, %v): %d, want %d", x, y, got, want)
		}
	})
}

// P4.1
func TestRing(t *testing.T) {
	singles(func(x api.Int) {
		told(t, "Neg", whole.Neg(x), new(big.Int).Neg(number(x)))
	})
	pairs(func(x, y api.Int) {
		told(t, "Add", whole.Add(x, y), new(big.Int).Add(number(x), number(y)))
		told(t, "Sub", whole.Sub(x, y), new(big.Int).Sub(number(x), number(y)))
		told(t, "Mul", whole.Mul(x, y), new(big.Int).Mul(number(x), number(y)))
		if t.Failed() {
			t.Fatalf("of %v and %v", x, y)
		}
	})
}

// P4.2: quotient and rest are rounded towards 0, the rest has the sign of what is divided.
func TestDivision(t *testing.T) {
	pairs(func(x, y api.Int) {
		q, r, e := whole.DivMod(x, y)
		exact, f := whole.Exact(x, y)
		if number(y).Sign() == 0 {
			nothing(t, "DivMod by 0", e, api.ErrZero, q, r)
			nothing(t, "Exact by 0", f, api.ErrZero, exact)
			return
		}
		wantQ, wantR := new(big.Int).QuoRem(number(x), number(y), new(big.Int))
		if e != api.OK {
			t.Errorf("DivMod: error %d", e)
		}
		told(t, "DivMod's quotient", q, wantQ)
		told(t, "DivMod's rest", r, wantR)
		if wantR.Sign() != 0 {
			nothing(t, "Exact with a rest", f, api.ErrArg, exact)
		} else {
			if f != api.OK {
				t.Errorf("Exact: error %d", f)
			}
			told(t, "Exact", exact, wantQ)
		}
		if t.Failed() {
			t.Fatalf("of %v and %v", x, y)
		}
	})
}

// P4.2: all signs of what goes up and what does not.
func TestDivisionSigns(t *testing.T) {
	for _, c := range [][4]int64{
		{7, 2, 3, 1}, {-7, 2, -3, -1}, {7, -2, -3, 1}, {-7, -2, 3, -1},
		{6, 3, 2, 0}, {-6, 3, -2, 0}, {6, -3, -2, 0}, {-6, -3, 2, 0},
		{1, 2, 0, 1}, {-1, 2, 0, -1}, {1, -2, 0, 1}, {-1, -2, 0, -1},
		{0, 5, 0, 0}, {0, -5, 0, 0},
		{math.MinInt64, 1, math.MinInt64, 0}, {math.MinInt64, math.MaxInt64, -1, -1},
	} {
		q, r, e := whole.DivMod(whole.Of(c[0]), whole.Of(c[1]))
		if e != api.OK {
			t.Errorf("DivMod(%d, %d): error %d", c[0], c[1], e)
		}
		told(t, "DivMod's quotient", q, big.NewInt(c[2]))
		told(t, "DivMod's rest", r, big.NewInt(c[3]))
		exact, e := whole.Exact(whole.Of(c[0]), whole.Of(c[1]))
		if c[3] != 0 {
			nothing(t, "Exact with a rest", e, api.ErrArg, exact)
		} else {
			told(t, "Exact", exact, big.NewInt(c[2]))
		}
	}
}

// held holds Gcd of both, in both orders, against the library.
func held(t *testing.T, x, y api.Int) {
	t.Helper()
	want := new(big.Int).GCD(nil, nil, new(big.Int).Abs(number(x)), new(big.Int).Abs(number(y)))
	told(t, "Gcd", whole.Gcd(x, y), want)
	told(t, "Gcd the other way round", whole.Gcd(y, x), want)
	if t.Failed() {
		t.Fatalf("of %v and %v", x, y)
	}
}

// P4.2
func TestGcd(t *testing.T) {
	pairs(func(x, y api.Int) { held(t, x, y) })
	singles(func(x api.Int) {
		held(t, x, x)
		held(t, x, api.Int{Neg: true, Mag: []uint32{0}})
	})
}

// P4.2: numbers with a common factor, short and long.
func TestGcdOfProducts(t *testing.T) {
	list := append(some(600, 8), some(60, 60)...)
	for i := range len(list) - 2 {
		held(t, whole.Mul(list[i], list[i+1]), whole.Mul(list[i+1], list[i+2]))
	}
}

// P4.2: all of small numbers, divisors found by trying each.
func TestGcdOfSmall(t *testing.T) {
	for a := int64(-30); a <= 30; a++ {
		for b := int64(-30); b <= 30; b++ {
			want := int64(0)
			for d := int64(1); d <= 30; d++ {
				if (a != 0 || b != 0) && a%d == 0 && b%d == 0 {
					want = d
				}
			}
			told(t, "Gcd", whole.Gcd(whole.Of(a), whole.Of(b)), big.NewInt(want))
		}
	}
}

// P4.2: neighbours in Fibonacci's row need the most steps; long ones end soon.
func TestGcdEnds(t *testing.T) {
	a, b := big.NewInt(0), big.NewInt(1)
	for i := range 30000 {
		a, b = b, a.Add(a, b)
		if i < 400 || i%5000 == 0 {
			held(t, asInt(a), asInt(b))
		}
	}
	next := source()
	for _, n := range [][2]int{{1000, 1000}, {1000, 1}, {2000, 3}, {1000, 500}} {
		held(t, made(n[0], next), made(n[1], next))
	}
}

// P4.3
func TestPow(t *testing.T) {
	list := append(edges(), some(10, 5)...)
	for _, x := range list {
		for _, n := range []int{0, 1, 2, 3, 4, 5, 7, 8, 9, 15, 16, 17, 31, 64, 100, 127, 128, 999, 1000} {
			p, e := whole.Pow(x, n)
			if e != api.OK {
				t.Errorf("Pow(%v, %d): error %d", x, n, e)
			}
			told(t, "Pow", p, new(big.Int).Exp(number(x), big.NewInt(int64(n)), nil))
		}
		if t.Failed() {
			t.Fatalf("of %v", x)
		}
	}
	for n := range api.MaxPow + 1 {
		for _, base := range []int64{-3, -1, 0, 1, 2} {
			p, e := whole.Pow(whole.Of(base), n)
			if e != api.OK {
				t.Errorf("Pow(%d, %d): error %d", base, n, e)
			}
			told(t, "Pow", p, new(big.Int).Exp(big.NewInt(base), big.NewInt(int64(n)), nil))
		}
	}
}

// P4.3: exponents that are refused, whatever the base is.
func TestPowRefused(t *testing.T) {
	for _, x := range edges() {
		for _, n := range []int{-1, -2, -1000, math.MinInt, api.MaxPow + 1, api.MaxPow + 2, 2000, math.MaxInt} {
			p, e := whole.Pow(x, n)
			nothing(t, "Pow", e, api.ErrArg, p)
		}
	}
}

// P4.3: 1000 is the bound; and the 0-th power of 0 is 1.
func TestPowBounds(t *testing.T) {
	if p, e := whole.Pow(whole.Of(2), 1000); e != api.OK || len(p.Mag) != 32 || p.Mag[31] != 1<<8 {
		t.Error("Pow(2, 1000):", p, e)
	}
	if _, e := whole.Pow(whole.Of(2), 1001); e != api.ErrArg {
		t.Error("Pow(2, 1001): error", e)
	}
	for _, x := range []api.Int{{}, {Neg: true}, {Neg: true, Mag: []uint32{0, 0}}} {
		p, e := whole.Pow(x, 0)
		if e != api.OK {
			t.Errorf("Pow(%v, 0): error %d", x, e)
		}
		told(t, "Pow of 0 and 0", p, big.NewInt(1))
	}
}

// P1: noughts without a number, and many of them behind one.
func TestNoughts(t *testing.T) {
	noughts := api.Int{Neg: true, Mag: make([]uint32, 1<<20)}
	long := api.Int{Neg: true, Mag: make([]uint32, 1<<20)}
	long.Mag[0] = 6
	for _, x := range []api.Int{noughts, long} {
		n := number(x)
		for _, y := range []api.Int{noughts, long, whole.Of(-4), {}} {
			m := number(y)
			told(t, "Add", whole.Add(x, y), new(big.Int).Add(n, m))
			told(t, "Sub", whole.Sub(x, y), new(big.Int).Sub(n, m))
			told(t, "Mul", whole.Mul(x, y), new(big.Int).Mul(n, m))
			held(t, x, y)
			if whole.Cmp(x, y) != n.Cmp(m) {
				t.Error("Cmp:", whole.Cmp(x, y))
			}
			if m.Sign() == 0 {
				_, _, e := whole.DivMod(x, y)
				nothing(t, "DivMod by 0", e, api.ErrZero)
			}
		}
		p, e := whole.Pow(x, 3)
		nothing(t, "Pow", e, api.OK)
		told(t, "Pow", p, new(big.Int).Exp(n, big.NewInt(3), nil))
	}
}

// What follows: the whole numbers are a ring, without divisors of nought.
func TestRingLaws(t *testing.T) {
	list := append(some(400, 6), edges()...)
	same := func(law string, x, y api.Int) {
		t.Helper()
		if whole.Cmp(x, y) != 0 {
			t.Errorf("%s: %v and %v", law, x, y)
		}
	}
	for i := range len(list) - 2 {
		x, y, z := list[i], list[i+1], list[i+2]
		same("x + y = y + x", whole.Add(x, y), whole.Add(y, x))
		same("(x + y) + z = x + (y + z)", whole.Add(whole.Add(x, y), z), whole.Add(x, whole.Add(y, z)))
		same("x + 0 = x", whole.Add(x, api.Int{}), x)
		same("x + -x = 0", whole.Add(x, whole.Neg(x)), api.Int{})
		same("(x - y) + y = x", whole.Add(whole.Sub(x, y), y), x)
		same("x y = y x", whole.Mul(x, y), whole.Mul(y, x))
		same("(x y) z = x (y z)", whole.Mul(whole.Mul(x, y), z), whole.Mul(x, whole.Mul(y, z)))
		same("x 1 = x", whole.Mul(x, whole.Of(1)), x)
		same("x (y + z) = x y + x z", whole.Mul(x, whole.Add(y, z)), whole.Add(whole.Mul(x, y), whole.Mul(x, z)))
		if got, want := whole.Sign(whole.Mul(x, y)), whole.Sign(x)*whole.Sign(y); got != want {
			t.Errorf("the sign of %v times %v: %d", x, y, got)
		}
	}
}

// What follows: a common divisor divides Gcd, and that divides both.
func TestGcdLaws(t *testing.T) {
	list := some(400, 6)
	for i := range len(list) - 2 {
		d := list[i]
		if whole.Sign(d) == 0 {
			continue
		}
		x, y := whole.Mul(d, list[i+1]), whole.Mul(d, list[i+2])
		g := whole.Gcd(x, y)
		for _, pair := range [][2]api.Int{{g, d}, {x, g}, {y, g}} {
			if _, e := whole.Exact(pair[0], pair[1]); e != api.OK && whole.Sign(g) != 0 {
				t.Errorf("%v does not divide %v: error %d", pair[1], pair[0], e)
			}
		}
	}
}

// What follows from DivMod's promise: q y + r is x, r without its sign below y without one.
func TestDivisionLaw(t *testing.T) {
	pairs(func(x, y api.Int) {
		q, r, e := whole.DivMod(x, y)
		if e != api.OK {
			return
		}
		if whole.Cmp(whole.Add(whole.Mul(q, y), r), x) != 0 || number(r).CmpAbs(number(y)) >= 0 || whole.Sign(r)*whole.Sign(x) < 0 {
			t.Errorf("DivMod(%v, %v): %v, %v", x, y, q, r)
		}
	})
}

// calls are all functions that tell an Int.
func calls() []func(x, y api.Int) []api.Int {
	list := []func(x, y api.Int) []api.Int{
		func(x, _ api.Int) []api.Int { return []api.Int{whole.Neg(x)} },
		func(x, y api.Int) []api.Int { return []api.Int{whole.Add(x, y)} },
		func(x, y api.Int) []api.Int { return []api.Int{whole.Sub(x, y)} },
		func(x, y api.Int) []api.Int { return []api.Int{whole.Mul(x, y)} },
		func(x, y api.Int) []api.Int { q, r, _ := whole.DivMod(x, y); return []api.Int{q, r} },
		func(x, y api.Int) []api.Int { q, _ := whole.Exact(x, y); return []api.Int{q} },
		func(x, y api.Int) []api.Int { return []api.Int{whole.Gcd(x, y)} },
		func(x, y api.Int) []api.Int {
			whole.May(x)
			whole.Small(x)
			whole.Sign(x)
			whole.Cmp(x, y)
			return nil
		},
	}
	for _, n := range []int{0, 1, 2, 3, 6, -1} {
		list = append(list, func(x, _ api.Int) []api.Int { p, _ := whole.Pow(x, n); return []api.Int{p} })
	}
	return list
}

// What is handed in stays, also behind its length; what is told is in memory of its own.
func TestMemory(t *testing.T) {
	const mark = 77
	roomy := func(x api.Int) api.Int {
		r := append(slices.Clone(x.Mag), mark, mark, mark)
		return api.Int{Neg: x.Neg, Mag: r[:len(x.Mag)]}
	}
	for i, call := range calls() {
		for _, a := range edges() {
			for _, b := range edges() {
				x, y := roomy(a), roomy(b)
				for _, got := range call(x, y) {
					limbs := got.Mag[:cap(got.Mag)]
					for i := range limbs {
						limbs[i] = ^limbs[i]
					}
				}
				for _, pair := range [][2]api.Int{{x, a}, {y, b}} {
					now := pair[0].Mag[:len(pair[0].Mag)+3]
					if !slices.Equal(now, append(slices.Clone(pair[1].Mag), mark, mark, mark)) {
						t.Errorf("call %d of %v and %v: an argument is %v now", i, a, b, now)
					}
				}
			}
		}
	}
}

// Quotient and rest share no memory, not even behind their lengths.
func TestApart(t *testing.T) {
	pairs(func(x, y api.Int) {
		q, r, _ := whole.DivMod(x, y)
		for _, pair := range [][2]api.Int{{q, r}, {r, q}} {
			kept := slices.Clone(pair[0].Mag)
			limbs := pair[1].Mag[:cap(pair[1].Mag)]
			for i := range limbs {
				limbs[i] = ^limbs[i]
			}
			if !slices.Equal(pair[0].Mag, kept) {
				t.Errorf("DivMod(%v, %v): quotient and rest lie in one memory", x, y)
			}
		}
	})
}

// The same number, or parts of its limbs, may be both arguments.
func TestSharedArguments(t *testing.T) {
	for _, x := range some(300, 12) {
		kept := slices.Clone(x.Mag)
		n := number(x)
		told(t, "Add of x and x", whole.Add(x, x), new(big.Int).Add(n, n))
		told(t, "Sub of x and x", whole.Sub(x, x), new(big.Int))
		told(t, "Mul of x and x", whole.Mul(x, x), new(big.Int).Mul(n, n))
		held(t, x, x)
		if len(x.Mag) > 1 {
			part := api.Int{Neg: !x.Neg, Mag: x.Mag[1:]}
			told(t, "Add of x and a part", whole.Add(x, part), new(big.Int).Add(n, number(part)))
			told(t, "Sub of a part and x", whole.Sub(part, x), new(big.Int).Sub(number(part), n))
			held(t, x, part)
		}
		if !slices.Equal(x.Mag, kept) {
			t.Errorf("%v is %v now", kept, x.Mag)
		}
	}
}
