package nat_test

import (
	"math"
	"math/big"
	"slices"
	"testing"

	"porism/api"
	"porism/nat"
)

const top = math.MaxUint32

// number tells in the library's numbers what limbs stand for: the tests' other way to work things out.
func number(a []uint32) *big.Int {
	sum := new(big.Int)
	for i := len(a) - 1; i >= 0; i-- {
		sum.Lsh(sum, 32)
		sum.Or(sum, big.NewInt(int64(a[i])))
	}
	return sum
}

func canonical(a []uint32) bool {
	return len(a) == 0 || a[len(a)-1] != 0
}

// edges are limbs at which carries, borrows and lengths change; some are not canonical.
func edges() [][]uint32 {
	return [][]uint32{
		nil, {}, {0}, {0, 0, 0},
		{1}, {2}, {5, 0}, {1, 0, 0}, {1 << 31}, {top - 1}, {top}, {top, 0},
		{0, 1}, {1, 1}, {0, 1, 0}, {top, 1}, {0, 1 << 31}, {0, top}, {top, top}, {top, top, 0, 0},
		{0, 0, 1}, {1, 0, 1}, {0, 1, 1}, {0, top, 1}, {top, top, top}, {0, 0, 0, 1}, {top, 0, 0, 7}, {0, 0, top, top, 0},
	}
}

// made are many limbs of many lengths, by a rule: the same ones at each run.
func made(count int) [][]uint32 {
	seed := uint64(0x9e3779b97f4a7c15)
	next := func() uint32 {
		seed ^= seed << 13
		seed ^= seed >> 7
		seed ^= seed << 17
		return uint32(seed >> 16)
	}
	out := edges()
	for len(out) < count {
		a := make([]uint32, next()%12)
		for i := range a {
			switch next() % 4 {
			case 0:
				a[i] = 0
			case 1:
				a[i] = top
			default:
				a[i] = next()
			}
		}
		out = append(out, a)
	}
	return out
}

// told fails unless got is canonical and stands for want.
func told(t *testing.T, what string, got []uint32, want *big.Int) {
	t.Helper()
	if !canonical(got) {
		t.Errorf("%s: %v is not canonical", what, got)
	}
	if number(got).Cmp(want) != 0 {
		t.Errorf("%s: %v stands for %v, want %v", what, got, number(got), want)
	}
}

func TestExamples(t *testing.T) {
	if got := nat.Add([]uint32{top}, []uint32{1}); !slices.Equal(got, []uint32{0, 1}) {
		t.Error("Add of 2^32 - 1 and 1:", got)
	}
	if got, e := nat.Sub([]uint32{0, 1}, []uint32{1}); e != api.OK || !slices.Equal(got, []uint32{top}) {
		t.Error("Sub of 2^32 and 1:", got, e)
	}
	left, e := nat.Shl([]uint32{5}, 33)
	if e != api.OK || !slices.Equal(left, []uint32{0, 10}) {
		t.Error("Shl(5, 33):", left, e)
	}
	if got, e := nat.Shr(left, 34); e != api.OK || !slices.Equal(got, []uint32{2}) {
		t.Error("Shr(that, 34):", got, e)
	}
	if got := nat.Cmp([]uint32{1, 0}, []uint32{1}); got != 0 {
		t.Error("Cmp of 1 0 and 1:", got)
	}
}

// P1.1
func TestTrim(t *testing.T) {
	for _, a := range made(300) {
		told(t, "Trim", nat.Trim(a), number(a))
	}
	if got := nat.Trim([]uint32{0, 3, 0, 0}); !slices.Equal(got, []uint32{0, 3}) {
		t.Error("only the noughts at the end go:", got)
	}
}

// P1.1
func TestCmp(t *testing.T) {
	list := made(120)
	for _, a := range list {
		for _, b := range list {
			if got, want := nat.Cmp(a, b), number(a).Cmp(number(b)); got != want {
				t.Errorf("Cmp(%v, %v): %d, want %d", a, b, got, want)
			}
		}
	}
}

// P1.1
func TestBits(t *testing.T) {
	for _, a := range made(300) {
		if got, want := nat.Bits(a), number(a).BitLen(); got != want {
			t.Errorf("Bits(%v): %d, want %d", a, got, want)
		}
	}
	for i := 0; i < 130; i++ {
		if a, e := nat.Shl([]uint32{1}, i); e != api.OK || nat.Bits(a) != i+1 {
			t.Errorf("Bits of 2^%d: %d", i, nat.Bits(a))
		}
	}
}

// P1.1
func TestSmallAndWord(t *testing.T) {
	for _, n := range []uint64{0, 1, 2, top - 1, top, top + 1, 1 << 33, 1 << 40, 1 << 63, math.MaxUint64 - 1, math.MaxUint64} {
		a := nat.Small(n)
		told(t, "Small", a, new(big.Int).SetUint64(n))
		for _, b := range [][]uint32{a, append(slices.Clone(a), 0, 0, 0)} {
			if back, ok := nat.Word(b); !ok || back != n {
				t.Errorf("Word(%v): %d, %v, want %d", b, back, ok, n)
			}
		}
	}
	for _, a := range [][]uint32{{0, 0, 1}, {7, 7, 1, 0}, {0, 0, 0, 1}, {1, 2, 0, 3}, {top, top, top}} {
		if n, ok := nat.Word(a); ok || n != 0 {
			t.Errorf("Word(%v): %d, %v, want 0, false", a, n, ok)
		}
	}
}

// P1.2
func TestAddAndSub(t *testing.T) {
	list := made(120)
	for _, a := range list {
		for _, b := range list {
			sum := nat.Add(a, b)
			told(t, "Add", sum, new(big.Int).Add(number(a), number(b)))
			if back, e := nat.Sub(sum, b); e != api.OK || !slices.Equal(back, nat.Trim(a)) {
				t.Errorf("%v and %v added, then taken away: %v, %d", a, b, back, e)
			}
			rest, e := nat.Sub(a, b)
			if number(a).Cmp(number(b)) < 0 {
				if e != api.ErrArg || rest != nil {
					t.Errorf("Sub(%v, %v): %v, %d, want ErrArg alone", a, b, rest, e)
				}
				continue
			}
			if e != api.OK {
				t.Errorf("Sub(%v, %v): %d", a, b, e)
			}
			told(t, "Sub", rest, new(big.Int).Sub(number(a), number(b)))
		}
	}
}

// P1.2: carries and borrows that go through many limbs.
func TestLongCarries(t *testing.T) {
	const n = 5000
	full := make([]uint32, n)
	for i := range full {
		full[i] = top
	}
	power := make([]uint32, n+1)
	power[n] = 1
	if got := nat.Add(full, []uint32{1}); !slices.Equal(got, power) {
		t.Error("the carry is lost on its way")
	}
	if got, e := nat.Sub(power, []uint32{1}); e != api.OK || !slices.Equal(got, full) {
		t.Error("the borrow is lost on its way")
	}
	if got, e := nat.Sub(power, full); e != api.OK || !slices.Equal(got, []uint32{1}) {
		t.Error("what is left:", len(got), e)
	}
}

// P1.3
func TestShifts(t *testing.T) {
	places := []int{0, 1, 2, 30, 31, 32, 33, 63, 64, 65, 95, 96, 97, 127, 128, 400}
	for _, a := range made(200) {
		for _, n := range places {
			left, e := nat.Shl(a, n)
			if e != api.OK {
				t.Errorf("Shl(%v, %d): %d", a, n, e)
			}
			told(t, "Shl", left, new(big.Int).Lsh(number(a), uint(n)))
			if back, e := nat.Shr(left, n); e != api.OK || !slices.Equal(back, nat.Trim(a)) {
				t.Errorf("%v shifted by %d and back: %v, %d", a, n, back, e)
			}
			right, e := nat.Shr(a, n)
			if e != api.OK {
				t.Errorf("Shr(%v, %d): %d", a, n, e)
			}
			told(t, "Shr", right, new(big.Int).Rsh(number(a), uint(n)))
		}
	}
}

// P1.3: how far may be shifted, and how far not.
func TestShiftBounds(t *testing.T) {
	shifts := map[string]func([]uint32, int) ([]uint32, api.Errno){"Shl": nat.Shl, "Shr": nat.Shr}
	for name, shift := range shifts {
		for _, n := range []int{-1, math.MinInt, -api.MaxShift, api.MaxShift + 1, math.MaxInt32, math.MaxInt} {
			for _, a := range [][]uint32{nil, {0}, {1}, {1, 2, 3}} {
				if got, e := shift(a, n); e != api.ErrArg || got != nil {
					t.Errorf("%s(%v, %d): %v, %d, want ErrArg alone", name, a, n, got, e)
				}
			}
		}
		for _, n := range []int{0, api.MaxShift - 1, api.MaxShift} {
			if got, e := shift([]uint32{0, 0}, n); e != api.OK || len(got) != 0 {
				t.Errorf("%s of 0 by %d: %v, %d", name, n, got, e)
			}
		}
	}
	far, e := nat.Shl([]uint32{3}, api.MaxShift)
	if e != api.OK {
		t.Fatal(e)
	}
	told(t, "Shl by MaxShift", far, new(big.Int).Lsh(big.NewInt(3), api.MaxShift))
	if back, e := nat.Shr(far, api.MaxShift); e != api.OK || !slices.Equal(back, []uint32{3}) {
		t.Error("and back:", back, e)
	}
	if half, e := nat.Shr(far, api.MaxShift+1); e != api.ErrArg || half != nil {
		t.Error("one bit too far:", half, e)
	}
}

// calls are all calls that tell limbs, of two lists.
func calls() map[string]func(a, b []uint32) []uint32 {
	return map[string]func(a, b []uint32) []uint32{
		"Trim":  func(a, b []uint32) []uint32 { return nat.Trim(a) },
		"Add":   func(a, b []uint32) []uint32 { return nat.Add(a, b) },
		"Sub":   func(a, b []uint32) []uint32 { r, _ := nat.Sub(a, b); return r },
		"Shl 0": func(a, b []uint32) []uint32 { r, _ := nat.Shl(a, 0); return r },
		"Shl":   func(a, b []uint32) []uint32 { r, _ := nat.Shl(a, 37); return r },
		"Shr 0": func(a, b []uint32) []uint32 { r, _ := nat.Shr(a, 0); return r },
		"Shr":   func(a, b []uint32) []uint32 { r, _ := nat.Shr(a, 3); return r },
	}
}

// What is handed in stays, also behind its length; what is told is in memory of its own.
func TestMemory(t *testing.T) {
	const mark = 77
	roomy := func(a []uint32) []uint32 {
		r := append(slices.Clone(a), mark, mark, mark)
		return r[:len(a)]
	}
	for name, call := range calls() {
		for _, a := range edges() {
			for _, b := range edges() {
				x, y := roomy(a), roomy(b)
				got := call(x, y)
				got = got[:cap(got)]
				for i := range got {
					got[i] = ^got[i]
				}
				for _, pair := range [][2][]uint32{{x, a}, {y, b}} {
					whole := pair[0][:len(pair[0])+3]
					if !slices.Equal(whole, append(slices.Clone(pair[1]), mark, mark, mark)) {
						t.Errorf("%s(%v, %v): an argument is %v now", name, a, b, whole)
					}
				}
			}
		}
	}
}

// The same list, or parts of one list, may be both arguments.
func TestSharedArguments(t *testing.T) {
	for _, a := range made(100) {
		told(t, "Add", nat.Add(a, a), new(big.Int).Lsh(number(a), 1))
		if got, e := nat.Sub(a, a); e != api.OK || len(got) != 0 {
			t.Errorf("Sub(%v) of itself: %v, %d", a, got, e)
		}
		if nat.Cmp(a, a) != 0 {
			t.Errorf("Cmp(%v) with itself is not 0", a)
		}
		if len(a) > 1 {
			told(t, "Add", nat.Add(a[1:], a), new(big.Int).Add(number(a[1:]), number(a)))
		}
	}
}

// P1: none panics, at odd arguments as little as at ordinary ones.
func TestNoPanic(t *testing.T) {
	list := append(edges(), make([]uint32, 1<<16))
	for _, a := range list {
		for _, b := range list {
			for name, call := range calls() {
				if got := call(a, b); !canonical(got) {
					t.Errorf("%s: %v is not canonical", name, got)
				}
			}
			nat.Cmp(a, b)
		}
		nat.Bits(a)
		nat.Word(a)
		for _, n := range []int{math.MinInt, -32, -1, 1, 31, 32, api.MaxShift, math.MaxInt} {
			nat.Shl(a, n)
			nat.Shr(a, n)
		}
	}
}
