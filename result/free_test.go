package result_test

import (
	"strconv"
	"strings"
	"testing"

	"porism/api"
	"porism/poly"
	"porism/result"
	"porism/view"
	"porism/whole"
)

// upright is p over its whole content, with its lead above 0.
func upright(p api.Poly) api.Poly {
	q, _ := poly.Whole(p)
	return q
}

// isFree fails unless the squarefree part is that one, whatever number is in p, and it is the part of itself.
func isFree(t *testing.T, p, part api.Poly) {
	t.Helper()
	for _, q := range []api.Poly{p, less(p), times(p, read("12")), times(p, read("-4294967296")), part, less(part)} {
		if got, e := result.Free(q); e != api.OK || !poly.Same(got, part) {
			t.Errorf("Free of %s: %s, error %d, want %s", text(q), text(got), e, text(part))
		}
	}
}

// trimmed is l without the noughts at its end.
func trimmed(l []uint64) []uint64 {
	for len(l) > 0 && l[len(l)-1] == 0 {
		l = l[:len(l)-1]
	}
	return l
}

// shared is the degree of the greatest common divisor of two in one variable, by the prime; it works in them.
func shared(a, b []uint64) int {
	a, b = trimmed(a), trimmed(b)
	for len(b) > 0 {
		inverse := raised(b[len(b)-1], prime-2)
		for len(a) >= len(b) {
			by := prime - a[len(a)-1]*inverse%prime
			for i, x := range b {
				a[len(a)-len(b)+i] = (a[len(a)-len(b)+i] + by*x) % prime
			}
			a = trimmed(a)
		}
		a, b = b, a
	}
	return len(a) - 1
}

// surplus is by how many degrees one in one variable, by the prime, is above its squarefree part.
func surplus(a []uint64) int {
	var slope []uint64
	for e, x := range a[1:] {
		slope = append(slope, x*uint64(e+1)%prime)
	}
	return shared(a, slope)
}

// freeOf fails unless what is told of p, not 0, is squarefree, divides p, and has all degrees that p's squarefree part has: so it is that, up to its number, which is looked at too. Both are seen at points that look as if drawn by lot.
func freeOf(t *testing.T, next func(below int) int, p api.Poly) {
	t.Helper()
	part, e := result.Free(p)
	if e != api.OK || len(part) == 0 || !poly.Same(part, upright(part)) {
		t.Fatalf("Free of %s: %s, error %d", text(p), text(part), e)
	}
	if _, e := poly.Over(upright(p), part); e != api.OK {
		t.Errorf("Free of %s: %s, which does not divide it", text(p), text(part))
	}
	points := make([]uint64, vars+1)
	for i := range points {
		points[i] = uint64(1 + next(prime-1))
	}
	for v := 1; v <= view.Class(p); v++ {
		if view.Degree(p, v) == 0 {
			continue
		}
		want := view.Degree(p, v) - surplus(at(p, v, points))
		if view.Degree(part, v) != want || surplus(at(part, v, points)) != 0 {
			t.Errorf("Free of %s: %s, want one of degree %d in %d", text(p), text(part), want, v)
		}
	}
}

// P14.2: the chapter's example, and others by hand.
func TestFreeByHand(t *testing.T) {
	for _, l := range [][2]string{
		{"4*x2^3+8*x1*x2^2+4*x1^2*x2", "x2^2+x1*x2"},
		{"0", "0"}, {"1", "1"}, {"-6", "1"}, {"18446744073709551616", "1"}, {"x1", "x1"}, {"-x1", "x1"}, {"5*x200", "x200"}, {"x1^5", "x1"}, {"x1^10000", "x1"}, {"-2*x1*x2^2", "x1*x2"}, {"2*x1+4", "x1+2"}, {"-x1+3", "x1-3"},
		{"x1^2-1", "x1^2-1"}, {"x2^2-2*x2+1", "x2-1"}, {"6*x1^2+12*x1+6", "x1+1"}, {"4*x1^2-1", "4*x1^2-1"}, {"4*x1^2+4*x1+1", "2*x1+1"}, {"x1^3-x1^2-x1+1", "x1^2-1"}, {"x1^4+2*x1^2+1", "x1^2+1"}, {"x1^4-1", "x1^4-1"}, {"x1^4+x1^3", "x1^2+x1"},
		{"x1^2*x2+x1^2", "x1*x2+x1"}, {"x1*x2^2-x2^2", "x1*x2-x2"}, {"x1^2-2*x1*x2+x2^2", "x2-x1"}, {"x1^4-2*x1^2*x2+x2^2", "x2-x1^2"}, {"x1^2*x3^2+2*x1*x3+1", "x1*x3+1"}, {"x1^2*x3+x1^2*x2", "x1*x3+x1*x2"}, {"x1^3*x2^2*x3", "x1*x2*x3"},
		{"x1^2*x2-x2", "x1^2*x2-x2"}, {"x1^2*x2-2*x1*x2+x2", "x1*x2-x2"}, {"x1^2*x2^2-2*x1*x2^2+x2^2", "x1*x2-x2"}, {"x1^2*x2^2+2*x1^2*x2+x1^2-x2^2-2*x2-1", "x1^2*x2+x1^2-x2-1"},
		{"4611686014132420609*x1^2+4294967294*x1+1", "2147483647*x1+1"}, {"2147483647*x1^2-2147483647", "x1^2-1"},
		{"x1^10000-1", "x1^10000-1"}, {"x1^10000+2*x1^5000+1", "x1^5000+1"}, {"x1^10000-x2^10000", "x2^10000-x1^10000"}, {"x1^10000*x2^2-2*x1^5000*x2+1", "x1^5000*x2-1"}, {"x1^10000-x1^9999*x2", "x1*x2-x1^2"}, {"x1^9999*x2^10000*x3+x1^9999*x2^10000", "x1*x2*x3+x1*x2"},
	} {
		isFree(t, read(l[0]), read(l[1]))
	}
}

// P14.2: one that may not be: ErrArg.
func TestFreeOfWrong(t *testing.T) {
	for i, p := range wrong() {
		if r, e := result.Free(p); len(r) > 0 || e != api.ErrArg {
			t.Errorf("Free of the wrong one %d: %s, error %d", i, text(r), e)
		}
	}
}

// P14.2: of two variables without exponents above 4, and of three without such above 2, whichever they are: no ErrExp.
func TestFreeWithinExponents(t *testing.T) {
	next := source()
	for range 100 {
		v, w, x := 1+next(60), 61+next(60), 121+next(80)
		f, g, h := dense(next, 1, v, w), dense(next, 1, v, w), sparse(next, 4, 2, v, w)
		for _, p := range []api.Poly{power(f, 4), times(f, f, f, g), times(f, f, g, g), times(f, f, h), times(h, h), dense(next, 4, v, w), sparse(next, 5, 4, v, x)} {
			freeOf(t, next, p)
		}
		f, g, h = dense(next, 1, v, w, x), sparse(next, 4, 1, v, w, x), sparse(next, 3, 1, w, x)
		for _, p := range []api.Poly{times(f, f), times(f, g), times(g, g), times(g, h), times(h, h), times(h, f), dense(next, 2, v, w, x)} {
			freeOf(t, next, p)
		}
	}
}

// P14.2: factors that are there once, twice and more often, of all variables and of some.
func TestFreeOfProducts(t *testing.T) {
	next := source()
	for i := range 200 {
		f, g, h := sparse(next, 3, 1, 1, 2, 3), sparse(next, 3, 1, 1+i%3), sparse(next, 2, 3, 2, 4)
		freeOf(t, next, times(f, power(g, 1+i%4), power(h, 1+i%3)))
		freeOf(t, next, times(f, f, power(g, 2+i%3), h))
		freeOf(t, next, times(power(f, 1+i%3), g))
		freeOf(t, next, times(power(sparse(next, 4, 5, 7), 1+i%5), sparse(next, 4, 5, 7)))
	}
}

// Many variables, each as often as its number; and a square that has some.
func TestFreeOfManyVariables(t *testing.T) {
	var high, low []string
	var all []api.Term
	for v := 1; v <= vars; v++ {
		high = append(high, "x"+strconv.Itoa(v)+"^"+strconv.Itoa(v*50))
		low = append(low, "x"+strconv.Itoa(v))
		if v%7 == 0 {
			all = append(all, term(int64(v), v, 1+v%3))
		}
	}
	isFree(t, read(strings.Join(high, "*")), read(strings.Join(low, "*")))
	p := sum(all...)
	isFree(t, times(p, p, read("x50")), upright(times(p, read("x50"))))
	isFree(t, sum(append(all, term(1, 1, 2))...), upright(sum(append(all, term(1, 1, 2))...)))
}

// Where exponents on the way may be too great: what is right, or ErrExp and nothing beside it.
func TestFreeOfGreatExponents(t *testing.T) {
	f, g := read("x1^3000*x2^2+x1^7*x2+1"), read("x1^4000*x2^3+x1^11*x2+3")
	for _, l := range [][2]api.Poly{
		{times(f, f, g), times(f, g)}, {times(f, f), f}, {times(f, f, f), f}, {times(f, g), times(f, g)}, {times(g, g, read("x2^9000")), times(g, read("x2"))},
	} {
		r, e := result.Free(l[0])
		if e == api.OK && !poly.Same(r, upright(l[1])) || e != api.OK && (e != api.ErrExp || len(r) > 0) {
			t.Errorf("Free of %s: %s, error %d", text(l[0]), text(r), e)
		}
	}
}

// Long numbers: they are in no one's way.
func TestFreeOfLongNumbers(t *testing.T) {
	next := source()
	for range 5 {
		c, _ := whole.Pow(whole.Of(int64(3+next(1000))), 100)
		f := read("x1*x2^2+7*x2-x1")
		f, _ = poly.Add(f, poly.Number(c))
		isFree(t, times(f, f, poly.Number(c)), upright(f))
		isFree(t, times(f, f, read("x1-2"), read("x1-2")), upright(times(f, read("x1-2"))))
	}
}
