package content_test

import (
	"math"
	"math/big"
	"slices"
	"strconv"
	"strings"
	"testing"

	"porism/api"
	"porism/content"
	"porism/poly"
	"porism/value"
	"porism/view"
	"porism/whole"
)

const (
	vars = api.MaxVars
	most = api.MaxExp
)

// read is the polynomial of a text, whose terms may come in any order.
func read(s string) api.Poly {
	var terms []api.Term
	for _, part := range strings.Split(strings.ReplaceAll(s, "-", "+-"), "+") {
		if part == "" { // ahead of a sign at the beginning
			continue
		}
		p, e := value.Parse(part)
		if e != api.OK {
			panic(s + ": error " + strconv.Itoa(int(e)))
		}
		terms = append(terms, p...)
	}
	return sum(terms...)
}

// text tells a polynomial for a failure's line.
func text(p api.Poly) string {
	s := value.Text(p)
	return s[:min(len(s), 200)]
}

// term is a term of a number, and variables and exponents by turns.
func term(c int64, l ...int) api.Term {
	t := api.Term{C: whole.Of(c)}
	for i := 0; i+1 < len(l); i += 2 {
		t.M = append(t.M, api.Power{Var: l[i], Exp: l[i+1]})
	}
	return t
}

// sum is the polynomial of terms in whatever order.
func sum(l ...api.Term) api.Poly {
	p, _ := poly.Of(l)
	return p
}

// times is the product of some; they must not have exponents that are too great.
func times(l ...api.Poly) api.Poly {
	product := read("1")
	for _, p := range l {
		var e api.Errno
		if product, e = poly.Times(product, p); e != api.OK {
			panic("too great")
		}
	}
	return product
}

// upright is p with the sign that makes its lead greater than 0.
func upright(p api.Poly) api.Poly {
	if len(p) > 0 && p[0].C.Neg {
		p, _ = poly.Neg(p)
	}
	return p
}

// answer is all that is told of two polynomials, or of one in a variable.
type answer struct {
	p, q api.Poly
	ok   bool
	e, f api.Errno
}

func ofTwo(p, q api.Poly) answer {
	var a answer
	a.p, a.e = content.Gcd(p, q)
	a.ok, a.f = content.Prime(p, q)
	return a
}

func ofOne(p api.Poly, v int) answer {
	var a answer
	a.p, a.e = content.Of(p, v)
	a.q, a.f = content.Part(p, v)
	return a
}

// told fails unless got is want.
func told(t *testing.T, what string, got, want answer) {
	t.Helper()
	if !poly.Same(got.p, want.p) || !poly.Same(got.q, want.q) || got.ok != want.ok || got.e != want.e || got.f != want.f {
		t.Errorf("%s: %s; %s; %t; errors %d, %d; want %s; %s; %t; errors %d, %d", what, text(got.p), text(got.q), got.ok, got.e, got.f, text(want.p), text(want.q), want.ok, want.e, want.f)
	}
}

// shared fails unless g is the greatest common divisor that is told, in both orders, with whatever signs.
func shared(t *testing.T, p, q, g api.Poly) {
	t.Helper()
	want := answer{p: g, ok: poly.Same(g, read("1"))}
	lessP, _ := poly.Neg(p)
	lessQ, _ := poly.Neg(q)
	for _, l := range [][2]api.Poly{{p, q}, {q, p}, {lessP, q}, {p, lessQ}, {lessQ, lessP}} {
		told(t, text(l[0])+" and "+text(l[1]), ofTwo(l[0], l[1]), want)
	}
}

// parts fails unless c and p's part in v are as they are wanted.
func parts(t *testing.T, p api.Poly, v int, c, part api.Poly) {
	t.Helper()
	less, _ := poly.Neg(p)
	for _, x := range []api.Poly{p, less} {
		told(t, text(x)+" in "+strconv.Itoa(v), ofOne(x, v), answer{p: c, q: part})
	}
}

// source tells numbers from 0 on, below some one, that look as if drawn by lot, always the same ones.
func source() func(below int) int {
	seed := uint64(88172645463325252)
	return func(below int) int {
		seed ^= seed << 13
		seed ^= seed >> 7
		seed ^= seed << 17
		return int(seed>>33) % below
	}
}

// number is one by lot: most often a short one, else one of some limbs, or one near a limb's end.
func number(next func(below int) int) api.Int {
	switch next(8) {
	case 0:
		x := api.Int{Neg: next(2) == 0, Mag: make([]uint32, 1+next(4))}
		for i := range x.Mag {
			x.Mag[i] = uint32(next(math.MaxInt32))
		}
		return whole.Add(x, api.Int{})
	case 1:
		return whole.Of(int64(next(5)-2) * math.MaxInt32)
	}
	return whole.Of(int64(next(19) - 9))
}

// dense is a polynomial by lot that may have all terms of these variables up to exps, each with a number by lot.
func dense(next func(below int) int, exps int, l ...int) api.Poly {
	terms := []api.Term{{}}
	for _, v := range l {
		for _, t := range slices.Clone(terms) {
			for e := 1; e <= exps; e++ {
				terms = append(terms, api.Term{M: append(slices.Clone(t.M), api.Power{Var: v, Exp: e})})
			}
		}
	}
	for i := range terms {
		terms[i].C = number(next)
	}
	return sum(terms...)
}

// sparse is a polynomial by lot of up to so many terms, of these variables up to exps.
func sparse(next func(below int) int, count, exps int, l ...int) api.Poly {
	var terms []api.Term
	for range 1 + next(count) {
		t := api.Term{C: number(next)}
		for _, v := range l {
			if e := next(exps + 1); e > 0 && next(3) > 0 {
				t.M = append(t.M, api.Power{Var: v, Exp: e})
			}
		}
		terms = append(terms, t)
	}
	return sum(terms...)
}

// at is p as one in v, by powers of v, with numbers in the place of the others.
func at(p api.Poly, v int, points []int64) []*big.Rat {
	l := make([]*big.Rat, view.Degree(p, v)+1)
	for i := range l {
		l[i] = new(big.Rat)
	}
	for _, t := range p {
		worth, place := new(big.Int), 0
		for _, limb := range slices.Backward(t.C.Mag) {
			worth.Lsh(worth, 32).Or(worth, big.NewInt(int64(limb)))
		}
		if t.C.Neg {
			worth.Neg(worth)
		}
		for _, w := range t.M {
			if w.Var == v {
				place = w.Exp
				continue
			}
			worth.Mul(worth, new(big.Int).Exp(big.NewInt(points[w.Var]), big.NewInt(int64(w.Exp)), nil))
		}
		l[place].Add(l[place], new(big.Rat).SetInt(worth))
	}
	return l
}

// trimmed is l without the noughts at its end.
func trimmed(l []*big.Rat) []*big.Rat {
	for len(l) > 0 && l[len(l)-1].Sign() == 0 {
		l = l[:len(l)-1]
	}
	return l
}

// areApart tells whether two in one variable, over the rational numbers, have no common divisor but numbers; by Euclid's way.
func areApart(a, b []*big.Rat) bool {
	a, b = trimmed(a), trimmed(b)
	for len(b) > 0 {
		for len(a) >= len(b) {
			by := new(big.Rat).Quo(a[len(a)-1], b[len(b)-1])
			for i, x := range b {
				place := len(a) - len(b) + i
				a[place] = new(big.Rat).Sub(a[place], new(big.Rat).Mul(by, x))
			}
			a = trimmed(a)
		}
		a, b = b, a
	}
	return len(a) == 1
}

// areApartIn tells whether it is seen at one of some points that a and b, of degree 1 or more in v, have no common divisor with v. One would be of the same degree there, if one of the heads is not 0 there.
func areApartIn(next func(below int) int, a, b api.Poly, v int) bool {
	for range 20 {
		points := make([]int64, vars+1)
		for i := range points {
			points[i] = int64(next(2001) - 1000)
		}
		f, g := at(a, v, points), at(b, v, points)
		if f[len(f)-1].Sign() == 0 && g[len(g)-1].Sign() == 0 {
			continue
		}
		if areApart(f, g) {
			return true
		}
	}
	return false
}

// greatest fails unless g is the greatest common divisor of p and q, not both 0, and right in its sign: unless it divides both, and of the quotients it is seen that no variable can be in a common divisor, and no number but 1 and -1 be one.
func greatest(t *testing.T, next func(below int) int, p, q, g api.Poly) {
	t.Helper()
	a, e := poly.Over(p, g)
	b, f := poly.Over(q, g)
	if e != api.OK || f != api.OK || g[0].C.Neg {
		t.Fatalf("Gcd of %s and %s: %s does not divide both (errors %d, %d), or has the wrong sign", text(p), text(q), text(g), e, f)
	}
	if n, _ := whole.Small(whole.Gcd(poly.Content(a), poly.Content(b))); n != 1 {
		t.Errorf("Gcd of %s and %s: %s; of the quotients both numbers are divided by %d", text(p), text(q), text(g), n)
	}
	for v := 1; v <= min(view.Class(a), view.Class(b)); v++ {
		if view.Degree(a, v) > 0 && view.Degree(b, v) > 0 && !areApartIn(next, a, b, v) {
			t.Errorf("Gcd of %s and %s: %s; the quotients %s and %s have a common divisor with the variable %d", text(p), text(q), text(g), text(a), text(b), v)
		}
	}
}

// asTold fails unless what is told of both is so, without ErrExp; it tells the greatest common divisor.
func asTold(t *testing.T, next func(below int) int, p, q api.Poly) api.Poly {
	t.Helper()
	a := ofTwo(p, q)
	if a.e != api.OK || a.f != api.OK {
		t.Fatalf("%s and %s: errors %d, %d", text(p), text(q), a.e, a.f)
	}
	if len(p) == 0 && len(q) == 0 {
		told(t, "0 and 0", a, answer{})
		return nil
	}
	greatest(t, next, p, q, a.p)
	less, _ := poly.Neg(p)
	told(t, text(q)+" and "+text(less), ofTwo(q, less), answer{p: a.p, ok: poly.Same(a.p, read("1"))})
	return a.p
}

// P13.1, P13.2: the chapter's examples.
func TestExamples(t *testing.T) {
	shared(t, read("x2^2-x1^2"), read("x2^2+2*x1*x2+x1^2"), read("x2+x1"))
	shared(t, read("6*x2"), read("4*x1*x2"), read("2*x2"))
	shared(t, read("x2+1"), read("x1"), read("1"))
	parts(t, read("2*x1*x2+4*x1"), 2, read("2*x1"), read("x2+2"))
}

// P13.1: by hand; 0 and 0 have 0, and Prime is told of 1 alone.
func TestByHand(t *testing.T) {
	shared(t, nil, api.Poly{}, nil)
	for _, l := range [][3]string{
		{"0", "1", "1"}, {"0", "-7", "7"}, {"0", "-3*x5+6", "3*x5-6"}, {"0", "x200^10000", "x200^10000"},
		{"1", "1", "1"}, {"12", "18", "6"}, {"-5", "7", "1"}, {"4", "6*x1+10", "2"}, {"1", "x1^10000", "1"}, {"3", "x1", "1"},
		{"12345678901234567890123456789012345678901234567890", "98765432109876543210987654321098765432109876543210*x9", "900000000090000000009000000000900000000090"},
		{"x1", "x1", "x1"}, {"x1", "x2", "1"}, {"x200", "-x200", "x200"}, {"x1^3*x7^2", "x1^2*x7^5*x9", "x1^2*x7^2"}, {"x1^10000", "x1^9999*x2", "x1^9999"},
		{"x1^10000*x200^10000", "6*x1^10000*x200^10000", "x1^10000*x200^10000"},
		{"x1-1", "x1+1", "1"}, {"x1^2-1", "x1+1", "x1+1"}, {"2*x1+2", "3*x1+3", "x1+1"}, {"2*x1+2", "4*x1+6", "2"}, {"x1+1", "2*x1+2", "x1+1"}, {"-6*x1+6", "4*x1-4", "2*x1-2"},
		{"x1^6-1", "x1^4-1", "x1^2-1"}, {"x1^8+x1^6-3*x1^4-3*x1^3+8*x1^2+2*x1-5", "3*x1^6+5*x1^4-4*x1^2-9*x1+21", "1"},
		{"x2^2+x1", "x2^2-x1", "1"}, {"x2-x1", "x2^3-x1^3", "x2-x1"}, {"-x2+x1", "x1^2-x2^2", "x2-x1"}, {"x1*x2+x1", "x1", "x1"}, {"x1*x2+x1", "x2+1", "x2+1"},
		{"x2*x3+x1*x3", "x1*x3^2-x3", "x3"}, {"x1*x3^2-x1", "x2*x3+x2", "x3+1"}, {"x1^2-x2*x3", "x1^2+x2*x3", "1"}, {"x1*x2^2+x2", "x1*x2*x5+x5", "x1*x2+1"},
		{"2147483647*x1^2-2147483647", "2147483647*x1+2147483647", "2147483647*x1+2147483647"}, {"2147483647*x1+1", "2147483647*x1+2", "1"}, {"2147483647*x2^2+x1*x2", "2147483647*x1*x2+x1^2", "2147483647*x2+x1"},
	} {
		shared(t, read(l[0]), read(l[1]), read(l[2]))
	}
}

// P13.2: by hand; of 0 both are 0, without the variable all is content, and it need not be the main one.
func TestPartsByHand(t *testing.T) {
	for _, v := range []int{1, 2, 77, vars} {
		parts(t, nil, v, nil, nil)
		parts(t, read("-12"), v, read("12"), read("1"))
		parts(t, read("1"), v, read("1"), read("1"))
	}
	for _, l := range []struct {
		p       string
		v       int
		c, part string
	}{
		{"2*x1*x2+4*x1", 1, "2*x2+4", "x1"}, {"2*x1*x2+4*x1", 3, "2*x1*x2+4*x1", "1"}, {"-x1*x2+x1", 2, "x1", "x2-1"}, {"-x1*x2+x1", 1, "x2-1", "x1"}, {"-x1*x2+x1", 9, "x1*x2-x1", "1"},
		{"x2^2-x1^2", 2, "1", "x2^2-x1^2"}, {"x1^2-2*x2^2", 2, "1", "2*x2^2-x1^2"}, {"x1^2-2*x2^2", 1, "1", "2*x2^2-x1^2"},
		{"6*x2^2", 2, "6", "x2^2"}, {"-6*x2^10000", 2, "6", "x2^10000"}, {"x1*x2^3+x1^2*x2", 2, "x1", "x2^3+x1*x2"}, {"x1*x2^3+x1^2*x2", 1, "x2", "x1*x2^2+x1^2"},
		{"x1^2*x2-x2+x1*x3-x3", 2, "x1-1", "x3+x1*x2+x2"}, {"x1*x2*x3+x1*x3+x2+1", 3, "x2+1", "x1*x3+1"}, {"x1*x2*x3+x1*x3+x2+1", 2, "x1*x3+1", "x2+1"}, {"x1*x2*x3+x1*x3+x2+1", 1, "x2+1", "x1*x3+1"},
		{"5*x1*x200^10000+10*x200^10000", 1, "5*x200^10000", "x1+2"}, {"5*x1*x200^10000+10*x200^10000", vars, "5*x1+10", "x200^10000"},
	} {
		parts(t, read(l.p), l.v, read(l.c), read(l.part))
	}
}

// P13.1, P13.2: one that may not be, or no variable: ErrArg, also where else ErrExp might be told.
func TestWrong(t *testing.T) {
	bad := answer{e: api.ErrArg, f: api.ErrArg}
	good := []api.Poly{nil, read("1"), read("x1"), read("2*x1*x2+4*x1"), high()[0], high()[1]}
	wrong := []api.Poly{
		{term(0)}, {term(0, 1, 1)}, {{C: api.Int{Neg: true}}}, {{C: api.Int{Mag: []uint32{5, 0}}}}, {{C: api.Int{Mag: []uint32{0}}, M: term(1, 1, 1).M}},
		{term(1, 1, 1), term(1, 1, 1)}, {term(1), term(1, 1, 1)}, {term(1, 1, 1), term(1, 2, 1)}, {term(1, 2, 2), term(1, 1, 1), term(0)},
		{term(1, 1, most+1)}, {term(1, vars+1, 1)}, {term(1, 0, 1)}, {term(1, -1, 1)}, {term(1, 1, 0)}, {term(1, 1, -1)}, {term(1, 2, 1, 1, 1)}, {term(1, 1, 1, 1, 1)},
		{term(1, math.MaxInt, math.MaxInt)}, {term(1, math.MinInt, math.MinInt)}, make(api.Poly, 9),
	}
	for _, p := range wrong {
		for _, q := range append(good, wrong...) {
			told(t, "one that may not be, ahead of "+text(q), ofTwo(p, q), bad)
			told(t, "one that may not be, behind "+text(q), ofTwo(q, p), bad)
		}
		for _, v := range []int{math.MinInt, -1, 0, 1, 2, 7, vars, vars + 1, math.MaxInt} {
			told(t, "one that may not be", ofOne(p, v), bad)
		}
	}
	for _, v := range []int{math.MinInt, -1 << 32, -vars, -1, 0, vars + 1, 1<<32 + 1, math.MaxInt} {
		for _, p := range good {
			told(t, text(p)+" in "+strconv.Itoa(v), ofOne(p, v), bad)
		}
	}
}

// P13.1: of two variables without exponents above 4, and of three without such above 2, whichever they are: no ErrExp.
func TestWithinExponents(t *testing.T) {
	next := source()
	for i := range 500 {
		v, w, x := 1+next(60), 61+next(60), 121+next(80)
		exps := i % 5
		p, q, g := dense(next, 4-exps, v, w), dense(next, 4-exps, v, w), dense(next, exps, v, w)
		asTold(t, next, times(p, g), times(q, g))
		exps = i % 3
		p, q, g = dense(next, 2-exps, v, w, x), dense(next, 2-exps, v, w, x), dense(next, exps, v, w, x)
		asTold(t, next, times(p, g), times(q, g))
		p, q = sparse(next, 5, 4, v, x), sparse(next, 5, 4, v, x)
		asTold(t, next, p, q)
		p, q = sparse(next, 9, 2, v, w, x), sparse(next, 9, 2, v, w, x)
		asTold(t, next, p, q)
	}
}

// P13.1: sparse ones, in which degrees fall by more than one, and steps are passed by; also one variable, and four.
func TestSparse(t *testing.T) {
	next := source()
	for i := range 1200 {
		l := [][]int{{3}, {3, 200}, {1, 2, 3}, {1, 5, 9, 13}}[i%4]
		exps := []int{12, 6, 3, 2}[i%4]
		g := sparse(next, 3, exps, l...)
		p, q := sparse(next, 3, exps, l...), sparse(next, 4, exps, l...)
		told := asTold(t, next, times(p, g), times(q, g))
		if _, e := poly.Over(told, g); e != api.OK && len(g) > 0 {
			t.Errorf("Gcd of %s times %s, and %s: %s", text(g), text(p), text(q), text(told))
		}
	}
}

// "What follows": a factor that two products have in common is taken out; and it may be of few variables, of others than the rest.
func TestOfProducts(t *testing.T) {
	next := source()
	for i := range 600 {
		p, q := sparse(next, 4, 2, 1, 2, 3), sparse(next, 4, 2, 1, 2, 3)
		g := sparse(next, 4, 2, [][]int{{2}, {4}, {1, 4}, {1, 2, 3}}[i%4]...)
		small := asTold(t, next, p, q)
		shared(t, times(p, g), times(q, g), upright(times(small, g)))
	}
}

// P13.2: content and part are of the polynomial, the content divides all coefficients, and no more does; and of products both are products.
func TestParts(t *testing.T) {
	next := source()
	for i := range 500 {
		v := 1 + i%4
		p, q := sparse(next, 5, 2, 1, 2, 3), sparse(next, 5, 2, 1, 2, 3)
		if i%2 == 0 {
			p = times(p, sparse(next, 3, 2, 1, 2), sparse(next, 2, 2, 2, 3))
		}
		a, b := ofOne(p, v), ofOne(q, v)
		parts(t, p, v, a.p, a.q)
		if !poly.Same(times(a.p, a.q), upright(p)) || (len(a.q) == 0) != (len(p) == 0) || view.Degree(a.p, v) > 0 {
			t.Errorf("%s in %d: %s, %s", text(p), v, text(a.p), text(a.q))
		}
		var common api.Poly
		for _, c := range view.Coefficients(p, v) {
			common, _ = content.Gcd(common, c)
		}
		if !poly.Same(common, a.p) {
			t.Errorf("content of %s in %d: %s, want %s", text(p), v, text(a.p), text(common))
		}
		parts(t, times(p, q), v, times(a.p, b.p), times(a.q, b.q))
	}
}

// Many variables, of which two polynomials share all, some, one or none.
func TestManyVariables(t *testing.T) {
	all, even, odd := []api.Term{term(1)}, []api.Term{term(3)}, []api.Term{term(5)}
	for v := 1; v <= vars; v++ {
		x := term(int64(v*v%17+1), v, 1+v%3)
		all = append(all, x)
		if v%2 == 0 {
			even = append(even, x)
		} else {
			odd = append(odd, x)
		}
	}
	a, b, c := sum(all...), sum(even...), sum(odd...)
	x := read("x77+1")
	for _, l := range [][3]api.Poly{
		{a, b, read("1")}, {b, c, read("1")}, {times(a, b), times(a, x), a}, {times(a, x), times(b, x), x}, {times(b, x), times(c, x, x), x}, {times(b, c), times(b, x), b},
	} {
		told(t, text(l[0])+" and "+text(l[1]), ofTwo(l[0], l[1]), answer{p: l[2], ok: len(l[2]) == 1})
	}
	told(t, "odd and even, in an odd one", ofOne(times(b, c), 1), answer{p: b, q: c})
	told(t, "odd and even, in an even one", ofOne(times(b, c), vars), answer{p: c, q: b})
	var product []string
	for v := 1; v <= vars; v++ {
		product = append(product, "x"+strconv.Itoa(v)+"^"+strconv.Itoa(most))
	}
	highest := read(strings.Join(product, "*"))
	shared(t, highest, highest, highest)
	shared(t, highest, x, read("1"))
	shared(t, highest, read("x1^2+x1*x200"), read("x1"))
	shared(t, times(a, read("x200^9990")), highest, read("x200^9990"))
	parts(t, highest, 1, read(strings.Join(product[1:], "*")), read(product[0]))
}

// Great degrees, where these do no harm; also such as have nothing in common, of which Euclid's way alone would not end.
func TestGreatDegrees(t *testing.T) {
	for _, l := range [][3]string{
		{"x1^10000-1", "x1^9999-1", "x1-1"}, {"x1^10000-1", "x1^7500-1", "x1^2500-1"}, {"x3^10000-1", "x3^6-1", "x3^2-1"}, {"x1^10000-1", "x1^10000+1", "1"},
		{"x1^9999+3*x1^5000+7", "x1^8888+5*x1^4444+2", "1"}, {"x1^9999+3*x1^5000*x2+7", "x1^8888*x2^8888+5*x1^4444+2", "1"}, {"3*x1^10000+x1+2", "7*x1^9000+x1^8999+1", "1"},
		{"x1^10000-x2^10000", "x1^2-x2^2", "x2^2-x1^2"}, {"x1^10000*x2^2-x1^10000", "x1^9000*x2^10000-x1^9000", "x1^9000*x2^2-x1^9000"}, {"x1^6000*x2^10000+1", "x1^6000*x2^10000-1", "1"},
		{"x1^10000*x2+x1^10000+x2+1", "x2^2-1", "x2+1"}, {"x200^10000-x1", "x200^10000-2*x1", "1"},
	} {
		shared(t, read(l[0]), read(l[1]), read(l[2]))
	}
	p := times(read("3*x1^2+x1+1"), read("x1^3000+5"))
	shared(t, p, times(read("3*x1^2+x1+1"), read("x1-7")), read("3*x1^2+x1+1"))
	parts(t, read("x1^5000*x2^10000-x2^10000+x1^10000*x2-x2"), 2, read("x1^5000-1"), read("x2^10000+x1^5000*x2+x2"))
}

// Rests that stay below MaxExp, but would not be, if all steps had been made that their degrees leave room for: no ErrExp.
func TestStepsPassedBy(t *testing.T) {
	for _, k := range []string{"2", "520", "530", "1000", "1400"} {
		g := read("x2^3+x1+2")
		shared(t, times(g, read("x2^21+1")), times(g, read("x1^"+k+"*x2^3+1")), g)
		shared(t, times(g, read("x2^21*x3+1")), times(g, read("x1^"+k+"*x2^3+x3")), g)
	}
}

// high are two with a factor in common, and that one; exponents on the way may be too great.
func high() [3]api.Poly {
	g := read("x1^3000*x2^2+x1^7*x2+1")
	return [3]api.Poly{times(g, read("x1^6000*x2^4+x1^11*x2^3+3")), times(g, read("x1^6500*x2^5+x1^5*x2^2+x1^7")), g}
}

// Where exponents on the way may be too great: what is right, or ErrExp and nothing beside it, of all calls.
func TestTooGreat(t *testing.T) {
	l := high()
	last := read("x3^2+1")
	p := sum(append(times(l[0], read("x3^4")), l[1]...)...)
	for _, c := range []struct{ got, right answer }{
		{ofTwo(l[0], l[1]), answer{p: l[2]}},
		{ofTwo(l[1], l[0]), answer{p: l[2]}},
		{ofTwo(times(l[0], last), times(l[1], last)), answer{p: times(l[2], last)}},
		{ofOne(p, 3), answer{p: l[2], q: sum(append(times(read("x1^6000*x2^4+x1^11*x2^3+3"), read("x3^4")), read("x1^6500*x2^5+x1^5*x2^2+x1^7")...)...)}},
	} {
		if c.got.e == api.ErrExp {
			c.right = answer{e: api.ErrExp, f: api.ErrExp}
		}
		told(t, "high exponents", c.got, c.right)
	}
}

// Long numbers.
func TestLongNumbers(t *testing.T) {
	long := make([]api.Int, 6)
	for i := range long {
		long[i], _ = whole.Pow(whole.Of(int64(3+2*i)), 300)
	}
	x := func(a, b int) api.Poly { return sum(api.Term{C: long[a], M: term(1, 4, 2).M}, api.Term{C: long[b]}) }
	y := func(a, b int) api.Poly {
		return sum(api.Term{C: long[a], M: term(1, 5, 1).M}, term(-1, 4, 3), api.Term{C: whole.Neg(long[b])})
	}
	shared(t, times(x(1, 2), y(3, 4)), times(x(1, 2), y(4, 5)), x(1, 2))
	shared(t, times(x(1, 2), y(3, 4)), times(x(1, 3), y(3, 4)), y(3, 4))
	shared(t, poly.Number(long[1]), times(poly.Number(long[0]), x(0, 1)), read("1"))
	shared(t, poly.Number(long[3]), times(poly.Number(long[0]), x(0, 1)), poly.Number(long[0]))
	parts(t, times(x(1, 2), y(3, 4)), 5, x(1, 2), y(3, 4))
	parts(t, times(poly.Number(long[5]), y(3, 4)), 5, poly.Number(long[5]), y(3, 4))
}

// terms makes some of bytes, near what may be and beyond it.
func terms(s []byte) api.Poly {
	var p api.Poly
	for ; len(s) > 3; s = s[4:] {
		one := term(int64(int8(s[0])))
		if s[0] == 99 {
			one.C.Mag = append(one.C.Mag, 0)
		}
		for v, exp := range s[1:4] {
			if exp > 0 {
				one.M = append(one.M, api.Power{Var: v + 1, Exp: int(exp % 5)})
			}
		}
		p = append(p, one)
	}
	return p[:min(len(p), 6)]
}

// Whatever polynomials and a variable are.
func FuzzContent(f *testing.F) {
	f.Add([]byte{1, 0, 2, 0, 1, 1, 0, 0}, []byte{1, 0, 1, 0, 255, 1, 0, 0}, []byte{2, 0, 0, 0}, 2)
	f.Add([]byte{6, 0, 1, 0}, []byte{4, 1, 1, 0}, []byte{1, 0, 0, 1, 9, 0, 0, 0}, 200)
	f.Add([]byte{99, 0, 0, 0}, []byte{}, []byte{}, 0)
	f.Fuzz(func(t *testing.T, a, b, c []byte, v int) {
		p, q, g := terms(a), terms(b), terms(c)
		if !poly.May(p) || !poly.May(q) {
			told(t, "one that may not be", ofTwo(p, q), answer{e: api.ErrArg, f: api.ErrArg})
			return
		}
		if !poly.May(g) {
			g = nil
		}
		p, q = times(p, g), times(q, g)
		asTold(t, source(), p, q)
		if x := ofOne(p, v); v < 1 || v > vars {
			told(t, "no variable", x, answer{e: api.ErrArg, f: api.ErrArg})
		} else if x.e != api.OK || x.f != api.OK || !poly.Same(times(x.p, x.q), upright(p)) {
			t.Errorf("%s in %d: %s; %s; errors %d, %d", text(p), v, text(x.p), text(x.q), x.e, x.f)
		}
	})
}
