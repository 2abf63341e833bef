package divide_test

import (
	"math"
	"math/big"
	"slices"
	"testing"

	"porism/api"
	"porism/divide"
	"porism/nat"
	"porism/times"
)

const top = math.MaxUint32

// number tells in the library's numbers what limbs stand for: the tests' other way to work things out.
func number(a []uint32) *big.Int {
	bytes := make([]byte, 0, 4*len(a))
	for i := len(a) - 1; i >= 0; i-- {
		bytes = append(bytes, byte(a[i]>>24), byte(a[i]>>16), byte(a[i]>>8), byte(a[i]))
	}
	return new(big.Int).SetBytes(bytes)
}

// told fails unless got is canonical and stands for want.
func told(t *testing.T, what string, got []uint32, want *big.Int) {
	t.Helper()
	if n := len(got); n > 0 && got[n-1] == 0 {
		t.Errorf("%s: %v is not canonical", what, got)
	}
	if number(got).Cmp(want) != 0 {
		t.Errorf("%s: %v, want %v", what, got, want)
	}
}

// nothing fails unless an error is told alone.
func nothing(t *testing.T, what string, got, want api.Errno, lists ...[]uint32) {
	t.Helper()
	if got != want {
		t.Errorf("%s: error %d, want %d", what, got, want)
	}
	for _, a := range lists {
		if len(a) != 0 {
			t.Errorf("%s: %v beside an error", what, a)
		}
	}
}

// divided holds DivMod and Exact of a and b against the library.
func divided(t *testing.T, a, b []uint32) {
	t.Helper()
	q, r, e := divide.DivMod(a, b)
	exact, f := divide.Exact(a, b)
	if number(b).Sign() == 0 {
		nothing(t, "DivMod by 0", e, api.ErrZero, q, r)
		nothing(t, "Exact by 0", f, api.ErrZero, exact)
		return
	}
	wantQ, wantR := new(big.Int).QuoRem(number(a), number(b), new(big.Int))
	if e != api.OK {
		t.Errorf("DivMod(%v, %v): error %d", a, b, e)
	}
	told(t, "DivMod's quotient", q, wantQ)
	told(t, "DivMod's rest", r, wantR)
	if wantR.Sign() != 0 {
		nothing(t, "Exact with a rest", f, api.ErrArg, exact)
	} else {
		if f != api.OK {
			t.Errorf("Exact(%v, %v): error %d", a, b, f)
		}
		told(t, "Exact", exact, wantQ)
	}
	if t.Failed() {
		t.Fatalf("of %v and %v", a, b)
	}
}

// edges are limbs at which guesses and lengths change; some are not canonical.
func edges() [][]uint32 {
	return [][]uint32{
		nil, {}, {0}, {0, 0, 0},
		{1}, {2}, {5, 0}, {1, 0, 0}, {1<<31 - 1}, {1 << 31}, {1<<31 + 1}, {top - 1}, {top}, {top, 0},
		{0, 1}, {1, 1}, {0, 1, 0}, {top, 1}, {0, 1 << 31}, {1, 1 << 31}, {top, 1 << 31}, {top, 1<<31 - 1}, {0, top}, {top, top - 1}, {top, top}, {top, top, 0, 0},
		{0, 0, 1}, {1, 0, 1}, {0, 1, 1}, {top, top, 1}, {0, top, 1}, {top, 0, top}, {top, top, top}, {0, 0, 1 << 31}, {1, 0, 1 << 31}, {0, top, 1 << 31}, {top, top, 1 << 31}, {0, 0, 0, 1},
		{0, 0, 1 << 31, 1<<31 - 1}, {0, top - 1, 1 << 31}, {0, 0, 1 << 31, 3}, {3, 0, 1 << 31}, {1, 0, 1 << 29},
		{top, 0, 0, 7}, {0, 0, top, top, 0}, {top, top, 0, 1}, {top, top, top, top, 1}, {1, 0, 0, 0, 0, 1}, {0, 0, 0, 0, 1 << 31, 1<<31 - 1}, {0, 0, 0, top, top, top},
	}
}

// source tells numbers by a rule: the same ones at each run.
func source() func() uint32 {
	seed := uint64(0x9e3779b97f4a7c15)
	return func() uint32 {
		seed ^= seed << 13
		seed ^= seed >> 7
		seed ^= seed << 17
		return uint32(seed >> 16)
	}
}

// made are n limbs, with many at which guesses are wrong.
func made(n int, next func() uint32) []uint32 {
	a := make([]uint32, n)
	for i := range a {
		switch next() % 8 {
		case 0, 1:
			a[i] = 0
		case 2, 3:
			a[i] = top
		case 4:
			a[i] = 1 << 31
		case 5:
			a[i] = 1<<31 - 1
		default:
			a[i] = next()
		}
	}
	return a
}

func full(n int) []uint32 {
	return slices.Repeat([]uint32{top}, n)
}

func power(n int) []uint32 {
	a := make([]uint32, n+1)
	a[n] = 1
	return a
}

func TestExamples(t *testing.T) {
	if q, r, e := divide.DivMod([]uint32{0, 0, 1}, []uint32{top}); !slices.Equal(q, []uint32{1, 1}) || !slices.Equal(r, []uint32{1}) || e != api.OK {
		t.Error("DivMod of 2^64 and 2^32 - 1:", q, r, e)
	}
	if q, r, e := divide.Limb([]uint32{0, 1}, 10); !slices.Equal(q, []uint32{429496729}) || r != 6 || e != api.OK {
		t.Error("Limb of 0 1 and 10:", q, r, e)
	}
	if q, e := divide.Exact([]uint32{6}, []uint32{4}); q != nil || e != api.ErrArg {
		t.Error("Exact of 6 and 4:", q, e)
	}
}

// P3.1
func TestEdges(t *testing.T) {
	for _, a := range edges() {
		for _, b := range edges() {
			divided(t, a, b)
		}
	}
}

// P3.1: guesses that are right at once, too great by one or two, too great for a limb, and wrong only by what is left.
func TestGuesses(t *testing.T) {
	for _, x := range [][2][]uint32{
		{{0, 0, 6}, {0, 2}},
		{{0, 0, top - 1}, {1, top - 1}},
		{{0, 0, 1 << 31}, {top - 1, 1 << 31}},
		{{0, 1<<31 + 1, 1 << 31}, {top, 1 << 31}},
		{{0, top - 1, 1 << 31}, {top, 1 << 31}},
		{{top, 0, 1 << 31}, {2, 1 << 31}},
		{{3, 0, 1 << 31}, {1, 0, 1 << 29}},
		{{0, 0, 1 << 31, 3}, {1, 0, 1 << 29}},
		{{0, 0, 1 << 31, 1<<31 - 1}, {1, 0, 1 << 31}},
		{{0, 0, 0, 1<<31 - 1}, {top - 1, 1<<31 + 1, 1 << 31}},
		{{0, 1, 0, top - 1}, {1, top, top - 1}},
		{{0, 0, top, 1 << 31}, {top, top, 1 << 31}},
	} {
		divided(t, x[0], x[1])
	}
}

// each hands on all lists of n of the limbs.
func each(limbs []uint32, n int, yield func(a []uint32)) {
	a := make([]uint32, n)
	var at func(i int)
	at = func(i int) {
		if i == n {
			yield(a)
			return
		}
		for _, limb := range limbs {
			a[i] = limb
			at(i + 1)
		}
	}
	at(0)
}

// P3.1: all numbers of few limbs that are put together of those at which guesses are wrong.
func TestAllShort(t *testing.T) {
	wrong := []uint32{0, 1, 1<<31 - 1, 1 << 31, top - 1, top}
	for _, n := range []int{1, 2} {
		each(wrong, n, func(b []uint32) {
			each(wrong, n+2, func(a []uint32) { divided(t, a, b) })
		})
	}
	each(wrong[1:], 3, func(b []uint32) {
		each(wrong, 4, func(a []uint32) { divided(t, a, b) })
	})
}

// P3.1: divisors whose highest limb has each number of bits, from 1 to 32.
func TestShifts(t *testing.T) {
	next := source()
	for n := range 32 {
		for _, m := range []int{1, 2, 3, 6} {
			b := made(m, next)
			b[m-1] = 1<<n | next()&(1<<n-1)
			for range 5 {
				divided(t, made(m+int(next()%5), next), b)
				divided(t, append(full(m), b...), b)
			}
		}
	}
}

// P3.1: lengths that are alike and unlike.
func TestMany(t *testing.T) {
	next := source()
	for range 30000 {
		divided(t, made(int(next()%20), next), made(int(next()%10), next))
	}
	for range 300 {
		divided(t, made(int(next()%200), next), made(int(next()%200), next))
	}
}

// P3.1: long ones end soon.
func TestLong(t *testing.T) {
	next := source()
	for _, n := range [][2]int{{5000, 1}, {5000, 2}, {5000, 2500}, {5000, 4999}, {5000, 5000}, {2500, 5000}} {
		divided(t, made(n[0], next), made(n[1], next))
		divided(t, full(n[0]), full(n[1]))
		divided(t, power(n[0]), power(n[1]))
		divided(t, power(n[0]), full(n[1]))
	}
}

// P3.1: numbers that are but a little apart, and those just below and above a product.
func TestNear(t *testing.T) {
	next := source()
	one := []uint32{1}
	for range 500 {
		a, b := append(made(int(next()%12), next), 1+next()>>1), append(made(int(next()%12), next), 1+next()>>1)
		product := times.Rows(a, b)
		below, _ := nat.Sub(product, one)
		for _, x := range [][]uint32{product, below, nat.Add(product, one)} {
			divided(t, x, a)
			divided(t, x, b)
		}
		above := nat.Add(a, one)
		divided(t, a, a)
		divided(t, a, above)
		divided(t, above, a)
	}
}

// P3.1
func TestLimb(t *testing.T) {
	next := source()
	list := append(edges(), full(50), power(50), make([]uint32, 50))
	for range 300 {
		list = append(list, made(int(next()%40), next))
	}
	for _, a := range list {
		for _, d := range []uint32{1, 2, 3, 10, 1000000000, 1<<31 - 1, 1 << 31, 1<<31 + 1, top - 1, top, 1 + next()>>1} {
			q, r, e := divide.Limb(a, d)
			if e != api.OK {
				t.Errorf("Limb(%v, %d): error %d", a, d, e)
			}
			wantQ, wantR := new(big.Int).QuoRem(number(a), number([]uint32{d}), new(big.Int))
			told(t, "Limb's quotient", q, wantQ)
			told(t, "Limb's rest", nat.Small(uint64(r)), wantR)
		}
	}
}

// P3.1: ErrZero, also where the other one is 0, or the rest would not be; and nothing beside an error.
func TestZero(t *testing.T) {
	for _, a := range edges() {
		for _, z := range [][]uint32{nil, {}, {0}, make([]uint32, 3), make([]uint32, 1<<20)} {
			q, r, e := divide.DivMod(a, z)
			nothing(t, "DivMod by 0", e, api.ErrZero, q, r)
			q, e = divide.Exact(a, z)
			nothing(t, "Exact by 0", e, api.ErrZero, q)
		}
		q, r, e := divide.Limb(a, 0)
		nothing(t, "Limb by 0", e, api.ErrZero, q)
		if r != 0 {
			t.Error("Limb by 0: rest", r)
		}
	}
}

// P1: noughts without a number, and many of them behind one.
func TestNoughts(t *testing.T) {
	noughts := make([]uint32, 1<<20)
	divided(t, noughts, []uint32{7})
	divided(t, noughts, full(9))
	long := slices.Clone(noughts)
	copy(long, full(9))
	divided(t, long, full(4))
	divided(t, full(30), long)
	divided(t, long, long)
	if q, r, e := divide.Limb(noughts, top); len(q) != 0 || r != 0 || e != api.OK {
		t.Error("Limb of 0:", len(q), r, e)
	}
}

// What follows: a product divided by a factor is the other one, without a rest; and what is put together again is what was divided.
func TestLaws(t *testing.T) {
	next := source()
	for range 1000 {
		a, b := made(int(next()%40), next), append(made(int(next()%40), next), 1+next()>>1)
		q, r, e := divide.DivMod(times.Mul(a, b), b)
		if e != api.OK || !slices.Equal(q, nat.Trim(a)) || len(r) != 0 {
			t.Errorf("the product of %v and %v by the second: %v, %v, %d", a, b, q, r, e)
		}
		if q, e := divide.Exact(times.Mul(a, b), b); e != api.OK || !slices.Equal(q, nat.Trim(a)) {
			t.Errorf("the product of %v and %v by the second: %v, %d", a, b, q, e)
		}
		q, r, _ = divide.DivMod(a, b)
		if nat.Cmp(r, b) >= 0 || nat.Cmp(nat.Add(times.Mul(q, b), r), a) != 0 {
			t.Errorf("DivMod(%v, %v): %v, %v", a, b, q, r)
		}
	}
}

// What is handed in stays, also behind its length; what is told is in memory of its own.
func TestMemory(t *testing.T) {
	const mark = 77
	roomy := func(a []uint32) []uint32 {
		r := append(slices.Clone(a), mark, mark, mark)
		return r[:len(a)]
	}
	calls := []func(a, b []uint32) [][]uint32{
		func(a, b []uint32) [][]uint32 { q, r, _ := divide.DivMod(a, b); return [][]uint32{q, r} },
		func(a, b []uint32) [][]uint32 { q, _ := divide.Exact(a, b); return [][]uint32{q} },
		func(a, _ []uint32) [][]uint32 { q, _, _ := divide.Limb(a, 1); return [][]uint32{q} },
		func(a, _ []uint32) [][]uint32 { q, _, _ := divide.Limb(a, top); return [][]uint32{q} },
	}
	list := append(edges(), full(9), power(7), full(12))
	for i, call := range calls {
		for _, a := range list {
			for _, b := range list {
				x, y := roomy(a), roomy(b)
				for _, got := range call(x, y) {
					got = got[:cap(got)]
					for i := range got {
						got[i] = ^got[i]
					}
				}
				for _, pair := range [][2][]uint32{{x, a}, {y, b}} {
					whole := pair[0][:len(pair[0])+3]
					if !slices.Equal(whole, append(slices.Clone(pair[1]), mark, mark, mark)) {
						t.Errorf("call %d of %v and %v: an argument is %v now", i, a, b, whole)
					}
				}
			}
		}
	}
}

// Quotient and rest share no memory, not even behind their lengths.
func TestApart(t *testing.T) {
	for _, a := range edges() {
		for _, b := range edges() {
			q, r, _ := divide.DivMod(a, b)
			kept := slices.Clone(q)
			whole := r[:cap(r)]
			for i := range whole {
				whole[i] = ^whole[i]
			}
			if !slices.Equal(q, kept) {
				t.Errorf("DivMod(%v, %v): the quotient lies in the rest's memory", a, b)
			}
			kept = slices.Clone(r)
			whole = q[:cap(q)]
			for i := range whole {
				whole[i] = ^whole[i]
			}
			if !slices.Equal(r, kept) {
				t.Errorf("DivMod(%v, %v): the rest lies in the quotient's memory", a, b)
			}
		}
	}
}

// The same list, or parts of one list, may be both arguments.
func TestSharedArguments(t *testing.T) {
	next := source()
	for range 300 {
		a := append(made(1+int(next()%20), next), 1+next()>>1)
		kept := slices.Clone(a)
		divided(t, a, a)
		divided(t, a, a[1:])
		divided(t, a[:len(a)-1], a[1:])
		divided(t, a, a[:1+int(next())%len(a)])
		if !slices.Equal(a, kept) {
			t.Errorf("%v is %v now", kept, a)
		}
	}
}
