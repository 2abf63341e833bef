package times_test

import (
	"math"
	"math/big"
	"slices"
	"testing"

	"porism/api"
	"porism/nat"
	"porism/times"
)

const top = math.MaxUint32

type way struct {
	name string
	call func(a, b []uint32) []uint32
}

func ways() []way {
	return []way{{"Rows", times.Rows}, {"Split", times.Split}, {"Mul", times.Mul}}
}

// number tells in the library's numbers what limbs stand for: the tests' other way to work things out.
func number(a []uint32) *big.Int {
	bytes := make([]byte, 0, 4*len(a))
	for i := len(a) - 1; i >= 0; i-- {
		bytes = append(bytes, byte(a[i]>>24), byte(a[i]>>16), byte(a[i]>>8), byte(a[i]))
	}
	return new(big.Int).SetBytes(bytes)
}

// told fails unless got is canonical and stands for want.
func told(t *testing.T, what string, got []uint32, want *big.Int) {
	t.Helper()
	if n := len(got); n > 0 && got[n-1] == 0 {
		t.Errorf("%s: %v is not canonical", what, got)
	}
	if number(got).Cmp(want) != 0 {
		t.Errorf("%s: %v, want %v", what, got, want)
	}
}

func product(a, b []uint32) *big.Int {
	return new(big.Int).Mul(number(a), number(b))
}

// edges are limbs at which carries and lengths change; some are not canonical.
func edges() [][]uint32 {
	return [][]uint32{
		nil, {}, {0}, {0, 0, 0},
		{1}, {2}, {5, 0}, {1, 0, 0}, {1 << 31}, {top - 1}, {top}, {top, 0},
		{0, 1}, {1, 1}, {0, 1, 0}, {top, 1}, {0, 1 << 31}, {0, top}, {top, top}, {top, top, 0, 0},
		{0, 0, 1}, {1, 0, 1}, {0, 1, 1}, {top, top, 1}, {0, top, 1}, {top, 0, top}, {top, top, top}, {0, 0, 0, 1},
		{top, 0, 0, 7}, {0, 0, top, top, 0}, {top, top, 0, 1}, {top, top, top, top, 1}, {1, 0, 0, 0, 0, 1},
	}
}

// source tells numbers by a rule: the same ones at each run.
func source() func() uint32 {
	seed := uint64(0x9e3779b97f4a7c15)
	return func() uint32 {
		seed ^= seed << 13
		seed ^= seed >> 7
		seed ^= seed << 17
		return uint32(seed >> 16)
	}
}

// made are n limbs, with many that are 0 or full.
func made(n int, next func() uint32) []uint32 {
	a := make([]uint32, n)
	for i := range a {
		switch next() % 4 {
		case 0:
			a[i] = 0
		case 1:
			a[i] = top
		default:
			a[i] = next()
		}
	}
	return a
}

func full(n int) []uint32 {
	return slices.Repeat([]uint32{top}, n)
}

func power(n int) []uint32 {
	a := make([]uint32, n+1)
	a[n] = 1
	return a
}

func TestExamples(t *testing.T) {
	if got := times.Rows([]uint32{top}, []uint32{top}); !slices.Equal(got, []uint32{1, top - 1}) {
		t.Error("Rows of 2^32 - 1 and itself:", got)
	}
	if got := times.Limb([]uint32{0, 1}, 7); !slices.Equal(got, []uint32{0, 7}) {
		t.Error("Limb of 0 1 and 7:", got)
	}
}

// P2.1
func TestEdges(t *testing.T) {
	for _, w := range ways() {
		for _, a := range edges() {
			for _, b := range edges() {
				told(t, w.name, w.call(a, b), product(a, b))
			}
		}
	}
}

// P2.1: lengths around Cut, and what they are cut into, one long with one short too.
func TestLengths(t *testing.T) {
	const c = api.Cut
	next := source()
	lengths := []int{1, 2, 3, 4, 5, 7, 8, 9, c - 1, c, c + 1, 2*c - 2, 2*c - 1, 2 * c, 2*c + 1, 3*c + 1, 4*c - 1, 4 * c, 150, 257}
	for _, n := range lengths {
		for _, m := range lengths {
			a, b := made(n, next), made(m, next)
			want := product(a, b)
			for _, w := range ways() {
				told(t, w.name, w.call(a, b), want)
			}
		}
	}
}

// P2.1: sums of parts that are longer than the parts, and parts that are 0.
func TestCarriesAndGaps(t *testing.T) {
	for _, n := range []int{2, 3, 4, 5, 6, 11, 23, 24, 25, 47, 48, 49, 96, 97} {
		gap := power(n - 1)
		gap[0] = top
		list := [][]uint32{full(n), power(n), power(n - 1), gap, append(make([]uint32, n/2), full(n-n/2)...), append(full(n/2), power(n-n/2)...)}
		list = append(list, append(full(n), 0, 0, 0), make([]uint32, n))
		for _, a := range list {
			for _, b := range list {
				want := product(a, b)
				for _, w := range ways() {
					told(t, w.name, w.call(a, b), want)
				}
			}
		}
	}
}

// P2.1: many short products, that go through all ways of being cut.
func TestMany(t *testing.T) {
	next := source()
	for range 4000 {
		a, b := made(int(next()%70), next), made(int(next()%70), next)
		want := product(a, b)
		for _, w := range ways() {
			told(t, w.name, w.call(a, b), want)
		}
	}
}

// P2.1: long products end soon, also where one is much longer than the other.
func TestLong(t *testing.T) {
	next := source()
	for _, pair := range [][2]int{{3000, 3000}, {5000, 1}, {5000, 2}, {5000, 30}, {25, 9000}, {4097, 2048}} {
		a, b := made(pair[0], next), made(pair[1], next)
		want := product(a, b)
		for _, w := range ways() {
			told(t, w.name, w.call(a, b), want)
		}
	}
	if a := full(40000); number(times.Mul(a, a)).Cmp(product(a, a)) != 0 {
		t.Error("the square of a number of 40000 limbs")
	}
}

// P2.1
func TestLimb(t *testing.T) {
	next := source()
	list := append(edges(), full(50), power(50), make([]uint32, 50))
	for range 200 {
		list = append(list, made(int(next()%40), next))
	}
	for _, a := range list {
		for _, n := range []uint32{0, 1, 2, 7, 1 << 16, 1 << 31, top - 1, top, next()} {
			told(t, "Limb", times.Limb(a, n), product(a, []uint32{n}))
		}
	}
}

// What follows: products hang on no order, and spread over sums.
func TestLaws(t *testing.T) {
	next := source()
	for range 200 {
		a, b, c := made(int(next()%60), next), made(int(next()%60), next), made(int(next()%60), next)
		for _, w := range ways() {
			if !slices.Equal(w.call(a, b), w.call(b, a)) {
				t.Errorf("%s: the order of %v and %v is seen", w.name, a, b)
			}
			if !slices.Equal(w.call(w.call(a, b), c), w.call(a, w.call(b, c))) {
				t.Errorf("%s: how %v, %v and %v are taken together is seen", w.name, a, b, c)
			}
			if !slices.Equal(w.call(nat.Add(a, b), c), nat.Add(w.call(a, c), w.call(b, c))) {
				t.Errorf("%s: the product of a sum of %v and %v with %v", w.name, a, b, c)
			}
		}
	}
}

// What is handed in stays, also behind its length; what is told is in memory of its own.
func TestMemory(t *testing.T) {
	const mark = 77
	roomy := func(a []uint32) []uint32 {
		r := append(slices.Clone(a), mark, mark, mark)
		return r[:len(a)]
	}
	list := append(edges(), full(24), power(30), full(49))
	calls := append(ways(), way{"Limb 0", func(a, _ []uint32) []uint32 { return times.Limb(a, 0) }},
		way{"Limb 1", func(a, _ []uint32) []uint32 { return times.Limb(a, 1) }}, way{"Limb", func(a, _ []uint32) []uint32 { return times.Limb(a, top) }})
	for _, w := range calls {
		for _, a := range list {
			for _, b := range list {
				x, y := roomy(a), roomy(b)
				got := w.call(x, y)
				got = got[:cap(got)]
				for i := range got {
					got[i] = ^got[i]
				}
				for _, pair := range [][2][]uint32{{x, a}, {y, b}} {
					whole := pair[0][:len(pair[0])+3]
					if !slices.Equal(whole, append(slices.Clone(pair[1]), mark, mark, mark)) {
						t.Errorf("%s(%v, %v): an argument is %v now", w.name, a, b, whole)
					}
				}
			}
		}
	}
}

// The same list, or parts of one list, may be both arguments.
func TestSharedArguments(t *testing.T) {
	next := source()
	for range 100 {
		a := made(2+int(next()%100), next)
		for _, w := range ways() {
			told(t, w.name, w.call(a, a), product(a, a))
			told(t, w.name, w.call(a[1:], a[:len(a)-1]), product(a[1:], a[:len(a)-1]))
		}
	}
}

// P1: odd arguments: nothing at all, and noughts without a number.
func TestNoughts(t *testing.T) {
	noughts := [][]uint32{nil, {}, {0}, make([]uint32, 24), make([]uint32, 1<<20)}
	for _, w := range ways() {
		for _, z := range noughts {
			for _, a := range append(noughts, full(1), full(2), full(24), full(100)) {
				if got := w.call(z, a); len(got) != 0 {
					t.Errorf("%s of 0 and %d limbs: %v", w.name, len(a), got)
				}
				if got := w.call(a, z); len(got) != 0 {
					t.Errorf("%s of %d limbs and 0: %v", w.name, len(a), got)
				}
			}
		}
	}
	for _, z := range noughts {
		if got := times.Limb(z, top); len(got) != 0 {
			t.Error("Limb of 0:", got)
		}
	}
}
