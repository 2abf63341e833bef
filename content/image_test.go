package content

import (
	"math"
	"math/big"
	"slices"
	"strconv"
	"testing"

	"porism/api"
	"porism/poly"
	"porism/value"
)

// read is the polynomial of a text.
func read(s string) api.Poly {
	p, e := value.Parse(s)
	if e != api.OK {
		panic(s)
	}
	return p
}

// away is a polynomial that is 0 at the variable's point modulo the prime, and nowhere else.
func away(v int) api.Poly {
	return read("x" + strconv.Itoa(v) + "-" + strconv.FormatUint(point(v), 10))
}

// sum is that of some, and product theirs.
func sum(l ...api.Poly) api.Poly {
	var all api.Poly
	for _, p := range l {
		all, _ = poly.Add(all, p)
	}
	return all
}

func product(l ...api.Poly) api.Poly {
	all := one()
	for _, p := range l {
		all, _ = poly.Times(all, p)
	}
	return all
}

// Points are numbers below the prime, but 0; and of few variables no two sums, and no two products, are one: else simple polynomials would be 0 there.
func TestPoints(t *testing.T) {
	if !big.NewInt(prime).ProbablyPrime(20) {
		t.Error("no prime")
	}
	points, sums, products := map[uint64]bool{}, map[uint64]bool{}, map[uint64]bool{}
	for v := 1; v <= api.MaxVars; v++ {
		x := point(v)
		if x == 0 || x >= prime || points[x] {
			t.Errorf("point of %d: %d", v, x)
		}
		points[x] = true
		for u := 1; u <= v && v <= 50; u++ {
			y := point(u)
			if sums[(x+y)%prime] || products[x*y%prime] {
				t.Errorf("points of %d and %d: in a simple relation with others", u, v)
			}
			sums[(x+y)%prime], products[x*y%prime] = true, true
		}
	}
}

func TestResidue(t *testing.T) {
	for _, mag := range [][]uint32{nil, {1}, {prime - 1}, {prime}, {prime + 1}, {math.MaxUint32}, {0, 1}, {5, 7, 9}, {math.MaxUint32, math.MaxUint32, math.MaxUint32, math.MaxUint32}, {0, 0, 0, 1 << 31}} {
		n := new(big.Int)
		for _, limb := range slices.Backward(mag) {
			n.Lsh(n, 32).Or(n, big.NewInt(int64(limb)))
		}
		for _, neg := range []bool{false, len(mag) > 0} {
			if neg {
				n.Neg(n)
			}
			want := new(big.Int).Mod(n, big.NewInt(prime)).Uint64()
			if got := residue(api.Int{Neg: neg, Mag: mag}); got != want {
				t.Errorf("residue of %s: %d, want %d", n, got, want)
			}
		}
	}
	for n := range 40 {
		want := new(big.Int).Exp(big.NewInt(prime-3), big.NewInt(int64(n)), big.NewInt(prime)).Uint64()
		if got := powerOf(prime-3, n); got != want {
			t.Errorf("power %d: %d, want %d", n, got, want)
		}
	}
}

// What is told of a variable is never below the greatest common divisor's degree, and most often is it.
func TestRoom(t *testing.T) {
	x, y, naught := away(1), away(2), read("2147483647")
	for _, l := range []struct {
		p, q api.Poly
		want [3]int // of the variables 1 and 2, and which one is the easiest
	}{
		{read("x1"), read("x2"), [3]int{}},
		{read("x2^2-x1^2"), read("x2^2+2*x1*x2+x1^2"), [3]int{1, 1, 1}},
		{read("x2^3-x1"), read("x2^2+x1"), [3]int{}},
		{read("x1^3*x2"), read("x1^2"), [3]int{2, 0, 1}},
		{product(sum(read("x2"), read("x1^3")), read("x2^2+1")), product(sum(read("x2"), read("x1^3")), read("x1+1")), [3]int{3, 1, 1}}, // falls by 1, and by 2
		{product(sum(read("x2^3"), read("x1")), read("x2+1")), product(sum(read("x2^3"), read("x1")), read("x1^2+1")), [3]int{1, 3, 2}},
		{sum(x, y), x, [3]int{1, 0, 1}}, // shared at the points alone
		{sum(product(x, read("x2^2")), one()), sum(product(x, read("x2")), one()), [3]int{0, 1, 2}}, // both heads become 0, and nothing is told
		{sum(product(x, read("x2^2")), one()), sum(product(y, read("x2")), one()), [3]int{0, 0, 0}}, // one does
		{sum(product(x, read("x2^2")), read("x2")), read("x2^2-x2"), [3]int{0, 1, 2}},
		{product(naught, read("x2^2+1")), read("x2+1"), [3]int{0, 1, 2}}, // one that becomes 0 is divided by all, also by what has a greater degree
		{product(naught, read("x2+1")), read("x2^2+1"), [3]int{0, 1, 2}},
		{product(naught, read("x2^2+1")), product(naught, read("x2+1")), [3]int{0, 1, 2}},
		{product(naught, read("x2^2+x1")), product(naught, read("x1*x2^3+x1^2")), [3]int{1, 2, 1}},
	} {
		for range 2 {
			most, easiest := roomOf(l.p, l.q)
			if [3]int{most[1], most[2], easiest} != l.want {
				t.Errorf("room of %s and %s: %d, %d; want %d", value.Text(l.p), value.Text(l.q), most[1:3], easiest, l.want)
			}
			l.p, l.q = l.q, l.p
		}
	}
}

// P13.1 also holds where the image modulo the prime misleads: factors of which no two have anything in common, but at the points, and such whose heads become 0.
func TestMisled(t *testing.T) {
	x, y, z := away(1), away(2), away(3)
	naught := read("2147483647")
	factors := []api.Poly{
		x, sum(x, y), sum(product(x, read("x2")), one()), sum(product(x, read("x2^2")), y), sum(product(y, read("x1^2")), product(x, read("x2"))),
		sum(product(naught, read("x2^2")), x), sum(product(z, read("x2")), x), sum(product(x, y), z), sum(product(z, z, read("x2^2")), product(naught, read("x1")), x),
	}
	for i, a := range factors {
		for j, b := range factors {
			for k, g := range factors {
				want := upright(g)
				if i == j {
					want = product(want, upright(a))
				}
				got, e := Gcd(product(a, g), product(b, g))
				more, f := Gcd(product(a, naught, g), product(b, g, naught))
				if e != api.OK || f != api.OK || !poly.Same(got, want) || !poly.Same(more, product(want, naught)) {
					t.Errorf("Gcd of factors %d, %d times %d: %s; %s; errors %d, %d", i, j, k, value.Text(got), value.Text(more), e, f)
				}
			}
		}
	}
}
