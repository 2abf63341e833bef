package result_test

import (
	"math"
	"slices"
	"strconv"
	"strings"
	"testing"

	"porism/api"
	"porism/content"
	"porism/poly"
	"porism/result"
	"porism/value"
	"porism/view"
	"porism/whole"
)

const (
	vars  = api.MaxVars
	most  = api.MaxExp
	rows  = api.MaxRows
	prime = 1<<31 - 19 // by which what is told is looked at; no number by lot is near a multiple
)

// read is the polynomial of a text, whose terms may come in any order.
func read(s string) api.Poly {
	var terms []api.Term
	for _, part := range strings.Split(strings.ReplaceAll(s, "-", "+-"), "+") {
		if part == "" { // ahead of a sign at the beginning
			continue
		}
		p, e := value.Parse(part)
		if e != api.OK {
			panic(s + ": error " + strconv.Itoa(int(e)))
		}
		terms = append(terms, p...)
	}
	return sum(terms...)
}

// text tells a polynomial for a failure's line.
func text(p api.Poly) string {
	s := value.Text(p)
	return s[:min(len(s), 200)]
}

// term is a term of a number, and variables and exponents by turns.
func term(c int64, l ...int) api.Term {
	t := api.Term{C: whole.Of(c)}
	for i := 0; i+1 < len(l); i += 2 {
		t.M = append(t.M, api.Power{Var: l[i], Exp: l[i+1]})
	}
	return t
}

// sum is the polynomial of terms in whatever order.
func sum(l ...api.Term) api.Poly {
	p, _ := poly.Of(l)
	return p
}

// times is the product of some; they must not have exponents that are too great.
func times(l ...api.Poly) api.Poly {
	product := read("1")
	for _, p := range l {
		var e api.Errno
		if product, e = poly.Times(product, p); e != api.OK {
			panic("too great")
		}
	}
	return product
}

func power(p api.Poly, n int) api.Poly {
	return times(slices.Repeat([]api.Poly{p}, n)...)
}

func less(p api.Poly) api.Poly {
	q, _ := poly.Neg(p)
	return q
}

// source tells numbers from 0 on, below some one, that look as if drawn by lot, always the same ones.
func source() func(below int) int {
	seed := uint64(88172645463325252)
	return func(below int) int {
		seed ^= seed << 13
		seed ^= seed >> 7
		seed ^= seed << 17
		return int(seed>>33) % below
	}
}

// number is one by lot, not 0: most often a short one, else one of some limbs, or one near a limb's end.
func number(next func(below int) int) api.Int {
	switch next(8) {
	case 0:
		x := api.Int{Neg: next(2) == 0, Mag: make([]uint32, 1+next(4))}
		for i := range x.Mag {
			x.Mag[i] = uint32(1 + next(math.MaxInt32))
		}
		return x
	case 1:
		return whole.Of(math.MaxUint32 + int64(next(3)))
	case 2, 3, 4:
		return whole.Of(int64(next(9) + 1))
	}
	return whole.Of(int64(next(9) - 9))
}

// dense is a polynomial by lot that has all terms of these variables up to exps.
func dense(next func(below int) int, exps int, l ...int) api.Poly {
	terms := []api.Term{{}}
	for _, v := range l {
		for _, t := range slices.Clone(terms) {
			for e := 1; e <= exps; e++ {
				terms = append(terms, api.Term{M: append(slices.Clone(t.M), api.Power{Var: v, Exp: e})})
			}
		}
	}
	for i := range terms {
		terms[i].C = number(next)
	}
	return sum(terms...)
}

// sparse is a polynomial by lot, not 0, of up to so many terms, of these variables up to exps.
func sparse(next func(below int) int, count, exps int, l ...int) api.Poly {
	var terms []api.Term
	for range 1 + next(count) {
		t := api.Term{C: number(next)}
		for _, v := range l {
			if e := next(exps + 1); e > 0 {
				t.M = append(t.M, api.Power{Var: v, Exp: e})
			}
		}
		terms = append(terms, t)
	}
	if p := sum(terms...); len(p) > 0 {
		return p
	}
	return read("1")
}

// gappy is one of degree d in v by lot; most of its coefficients are 0, the others have one term or two in other variables.
func gappy(next func(below int) int, d, v int, others ...int) api.Poly {
	p := sparse(next, 2, 2, others...)
	for range d {
		p = times(p, read("x"+strconv.Itoa(v)))
		if next(3) == 0 {
			p, _ = poly.Add(p, sparse(next, 2, 2, others...))
		}
	}
	return p
}

// answer is what is told of two polynomials in a variable.
type answer struct {
	r    api.Poly
	ok   bool
	e, f api.Errno
}

func ofTwo(p, q api.Poly, v int) answer {
	var a answer
	a.r, a.e = result.Of(p, q, v)
	a.ok, a.f = result.Common(p, q, v)
	return a
}

// resultant is the answer that has r, refused one that has an error.
func resultant(r api.Poly) answer {
	return answer{r: r, ok: len(r) == 0}
}

func refused(e api.Errno) answer {
	return answer{e: e, f: e}
}

// told fails unless got is want.
func told(t *testing.T, what string, got, want answer) {
	t.Helper()
	if !poly.Same(got.r, want.r) || got.ok != want.ok || got.e != want.e || got.f != want.f {
		t.Errorf("%s: %s; %t; errors %d, %d; want %s; %t; errors %d, %d", what, text(got.r), got.ok, got.e, got.f, text(want.r), want.ok, want.e, want.f)
	}
}

func named(p, q api.Poly, v int) string {
	return text(p) + " and " + text(q) + " in " + strconv.Itoa(v)
}

// both fails unless the resultant is r, and has the right sign, when the two are changed about.
func both(t *testing.T, p, q api.Poly, v int, r api.Poly) {
	t.Helper()
	told(t, named(p, q, v), ofTwo(p, q, v), resultant(r))
	if view.Degree(p, v)*view.Degree(q, v)%2 == 1 {
		r = less(r)
	}
	told(t, named(q, p, v), ofTwo(q, p, v), resultant(r))
}

// raised is x to the n, by the prime.
func raised(x uint64, n int) uint64 {
	product := uint64(1)
	for ; n > 0; n /= 2 {
		if n%2 == 1 {
			product = product * x % prime
		}
		x = x * x % prime
	}
	return product
}

// at is p as one in v, by powers of v from 0 to its degree, with numbers in the place of the others, by the prime.
func at(p api.Poly, v int, points []uint64) []uint64 {
	l := []uint64{0}
	for _, t := range p {
		worth, place := uint64(0), 0
		for _, limb := range slices.Backward(t.C.Mag) {
			worth = (worth<<32 | uint64(limb)) % prime
		}
		if t.C.Neg {
			worth = prime - worth
		}
		for _, w := range t.M {
			if w.Var == v {
				place = w.Exp
			} else {
				worth = worth * raised(points[w.Var], w.Exp) % prime
			}
		}
		for len(l) <= place {
			l = append(l, 0)
		}
		l[place] = (l[place] + worth) % prime
	}
	return l
}

// matrix is the rows of two that are told by powers, from 0 on.
func matrix(a, b []uint64) [][]uint64 {
	m, n := len(a)-1, len(b)-1
	l := make([][]uint64, m+n)
	for i := range l {
		l[i] = make([]uint64, m+n)
		part, first := a, i
		if i >= n {
			part, first = b, i-n
		}
		for e, c := range part {
			l[i][first+len(part)-1-e] = c
		}
	}
	return l
}

// determinant is that of rows, by the prime; it works in them.
func determinant(l [][]uint64) uint64 {
	product := uint64(1)
	for k := range l {
		i := slices.IndexFunc(l[k:], func(row []uint64) bool { return row[k] != 0 })
		if i < 0 {
			return 0
		}
		if i > 0 {
			l[k], l[k+i] = l[k+i], l[k]
			product = prime - product
		}
		product = product * l[k][k] % prime
		inverse := raised(l[k][k], prime-2)
		for _, row := range l[k+1:] {
			by := prime - row[k]*inverse%prime
			for j := k; j < len(l); j++ {
				row[j] = (row[j] + by*l[k][j]) % prime
			}
		}
	}
	return product
}

// agrees fails unless a resultant is told that has no v, and that is at some points what the rows are there.
func agrees(t *testing.T, next func(below int) int, p, q api.Poly, v int) {
	t.Helper()
	a := ofTwo(p, q, v)
	told(t, named(p, q, v), a, resultant(a.r))
	if !poly.May(a.r) || view.Degree(a.r, v) > 0 {
		t.Errorf("%s: %s", named(p, q, v), text(a.r))
	}
	for range 2 {
		points := make([]uint64, vars+1)
		for i := range points {
			points[i] = uint64(next(prime))
		}
		want := determinant(matrix(at(p, v, points), at(q, v, points)))
		if got := at(a.r, v, points)[0]; got != want {
			t.Errorf("%s: %s, which is %d by the prime, want %d", named(p, q, v), text(a.r), got, want)
		}
	}
}

// P14.1: the chapter's examples.
func TestExamples(t *testing.T) {
	both(t, read("x2-x1"), read("x2+x1"), 2, read("2*x1"))
	both(t, read("x2^2-x1"), read("x2-1"), 2, read("1-x1"))
	both(t, read("x2^2-1"), read("x2-1"), 2, nil)
}

// P14.1: by hand.
func TestByHand(t *testing.T) {
	for _, l := range []struct {
		p, q string
		v    int
		r    string
	}{
		{"2*x1+3", "5*x1+7", 1, "-1"}, {"x1", "x1", 1, "0"}, {"x1", "-x1", 1, "0"}, {"x1^2", "x1^3", 1, "0"}, {"x1^2", "x1^2+1", 1, "1"}, {"x1-3", "x1-5", 1, "-2"},
		{"x1^2+1", "x1^2-1", 1, "4"}, {"x1^2-3*x1+2", "x1^2-7*x1+12", 1, "12"}, {"2*x1^2+1", "3*x1", 1, "9"}, {"6*x1^2-6", "4*x1+8", 1, "288"},
		{"4294967296*x1+1", "4294967295*x1-1", 1, "-8589934591"}, {"x2-18446744073709551616", "x2+18446744073709551616", 2, "36893488147419103232"},
		{"x3^2+x1*x3+x2", "2*x3+x1", 3, "4*x2-x1^2"}, {"x3^2*x4+x1*x3+x2", "2*x3*x4+x1", 3, "4*x2*x4^2-x1^2*x4"}, {"x200^3+x1*x200+x2", "3*x200^2+x1", vars, "27*x2^2+4*x1^3"},
		{"x1*x2^2-1", "x1*x2-1", 1, "-x2^2+x2"}, {"x1*x2^2-1", "x1*x2-1", 2, "-x1^2+x1"}, {"x2^2+x1^2-1", "x2-x1", 2, "2*x1^2-1"}, {"x2^2+x1^2-1", "x2-x1", 1, "2*x2^2-1"},
		{"x2^2-x1*x2", "x2*x3-x1*x3", 2, "0"}, {"x1*x2^2-x1", "x1*x2-2*x1", 2, "3*x1^3"}, {"x2^2+x1", "x2^2*x3+x1*x3", 2, "0"}, {"x1^3", "x1^2*x2+x3", 1, "x3^3"}, {"x1^3", "x1^2*x2+x1*x3", 1, "0"},
		{"x2^3-x1", "x2^2-x1", 2, "x1^2-x1^3"}, {"x2^3-x1", "x2^3+x1", 2, "8*x1^3"}, {"x2^4+1", "x2^3", 2, "1"}, {"x2^3", "x1*x2^2+x1", 2, "x1^3"}, {"x2^2+x1", "x2^4+x1", 2, "x1^4+2*x1^3+x1^2"},
	} {
		both(t, read(l.p), read(l.q), l.v, read(l.r))
	}
}

// P14.1: of two without the variable there are no rows; of one without it a power of that; of 0 it is 0, also where there are no rows.
func TestWithoutTheVariable(t *testing.T) {
	for _, v := range []int{1, 7, vars} {
		x := read("x" + strconv.Itoa(v))
		for _, s := range []string{"1", "-1", "5", "x2", "x2^10000+x3", "-x199-18446744073709551616"} {
			p := read(s)
			both(t, p, p, v, read("1"))
			both(t, p, less(p), v, read("1"))
			both(t, p, read("12"), v, read("1"))
			both(t, p, x, v, p)
			both(t, p, sum(term(3, v, 1), term(-2)), v, p)
		}
		for _, p := range []api.Poly{nil, {}, read("1"), read("-5"), x, power(x, rows), read("x1+x2"), read("2*x1*x2^3+x7*x200^2-1")} {
			both(t, nil, p, v, nil)
			both(t, api.Poly{}, p, v, nil)
		}
		for n := 1; n <= rows; n++ {
			p := read("x3^2-2*x2")
			both(t, p, sum(term(1, v, n), term(9)), v, power(p, n))
			both(t, read("-2"), sum(term(1, v, n)), v, power(read("-2"), n))
		}
	}
}

// ofDegree is one of the degree d in the variable 9, with exponents as great as they may be.
func ofDegree(d int) api.Poly {
	if d == 0 {
		return read("x1^10000+1")
	}
	return sum(term(1, 1, most, 9, d), term(-1, 2, most))
}

// P14.1: as many rows as there may be, however they are shared out; one more, and many more, are refused, ahead of 0 and of exponents that are too great.
func TestRows(t *testing.T) {
	next := source()
	for m := range rows + 1 {
		agrees(t, next, gappy(next, m, 1), gappy(next, rows-m, 1), 1)
		for _, n := range []int{rows + 1 - m, rows + 1, most} {
			p, q := ofDegree(m), ofDegree(n)
			told(t, named(p, q, 9), ofTwo(p, q, 9), refused(api.ErrLong))
			told(t, named(q, p, 9), ofTwo(q, p, 9), refused(api.ErrLong))
		}
	}
	for _, n := range []int{rows + 1, most} {
		told(t, "0 and too many rows", ofTwo(nil, ofDegree(n), 9), refused(api.ErrLong))
		told(t, "too many rows and 0", ofTwo(ofDegree(n), nil, 9), refused(api.ErrLong))
	}
	both(t, nil, ofDegree(rows), 9, nil)
	both(t, read("x2^20-x1"), read("x2^20+x1"), 2, power(read("2*x1"), 20))
	both(t, read("x2^39+x1"), read("x2-2"), 2, read("-549755813888-x1"))
	both(t, read("x2^40+x1"), read("x1+1"), 2, power(read("x1+1"), rows))
	both(t, read("x2^30-x1*x2^10"), read("x2^10-x1"), 2, power(read("x1^3-x1^2"), 10))
}

// wrong are lists of terms that may not be.
func wrong() []api.Poly {
	return []api.Poly{
		{term(0)}, {term(0, 1, 1)}, {{C: api.Int{Neg: true}}}, {{C: api.Int{Mag: []uint32{5, 0}}}}, {{C: api.Int{Mag: []uint32{0}}, M: term(1, 1, 1).M}},
		{term(1, 1, 1), term(1, 1, 1)}, {term(1), term(1, 1, 1)}, {term(1, 1, 1), term(1, 2, 1)}, {term(1, 2, 2), term(1, 1, 1), term(0)},
		{term(1, 1, most+1)}, {term(1, vars+1, 1)}, {term(1, 0, 1)}, {term(1, -1, 1)}, {term(1, 1, 0)}, {term(1, 1, -1)}, {term(1, 2, 1, 1, 1)}, {term(1, 1, 1, 1, 1)},
		{term(1, math.MaxInt, math.MaxInt)}, {term(1, math.MinInt, math.MinInt)}, {term(1, 1, 41), term(1, 1, 42)}, make(api.Poly, 9),
	}
}

// P14.1: one that may not be, or no variable: ErrArg, also where else another error would be told, or 0.
func TestWrong(t *testing.T) {
	good := []api.Poly{nil, read("1"), read("x1"), read("x1^41*x2^41"), read("x1^10000*x2^9000+x1^9*x2^10000"), read("x1^10000*x2^40+1"), read("2*x1*x2+4*x1")}
	for _, p := range wrong() {
		for _, q := range append(good, wrong()...) {
			for _, v := range []int{-1, 0, 1, 2, 7, vars, vars + 1} {
				told(t, "one that may not be, ahead of "+text(q), ofTwo(p, q, v), refused(api.ErrArg))
				told(t, "one that may not be, behind "+text(q), ofTwo(q, p, v), refused(api.ErrArg))
			}
		}
	}
	for _, v := range []int{math.MinInt, -1 << 32, -vars, -1, 0, vars + 1, 1<<32 + 1, math.MaxInt} {
		for _, p := range good {
			for _, q := range good {
				told(t, named(p, q, v), ofTwo(p, q, v), refused(api.ErrArg))
			}
		}
	}
}

// P14.1: of two variables without exponents above 4, and of three without such above 2, whichever they are: no ErrExp.
func TestWithinExponents(t *testing.T) {
	next := source()
	for range 20 {
		v, w, x := 1+next(60), 61+next(60), 121+next(80)
		for _, u := range []int{v, w, x} {
			agrees(t, next, dense(next, 4, v, w), dense(next, 4, v, w), u)
			agrees(t, next, sparse(next, 6, 4, v, w), dense(next, 4, v, w), u)
			agrees(t, next, dense(next, 2, v, w, x), dense(next, 2, v, w, x), u)
			agrees(t, next, sparse(next, 9, 2, v, w, x), dense(next, 2, v, w, x), u)
		}
	}
}

// P14.1: such as have many rows without heads.
func TestGaps(t *testing.T) {
	next := source()
	for i := range 200 {
		v := 1 + i%3
		agrees(t, next, gappy(next, next(7), v, 1+v%3), gappy(next, next(7), v, 1+v%3, 1+(v+1)%3), v)
		agrees(t, next, gappy(next, next(20), v), gappy(next, next(20), v), v)
	}
	for range 5 {
		agrees(t, next, gappy(next, next(12), 3, 1), gappy(next, next(12), 3, 2), 3)
	}
}

// "What follows": of a product it is the product; it is 0 just if there is a common divisor that has the variable.
func TestLaws(t *testing.T) {
	next := source()
	for i := range 300 {
		v := 1 + i%3
		p, q, r := sparse(next, 3, 2, 1, 2, 3), sparse(next, 3, 2, 1, 2, 3), gappy(next, 1+next(2), v, 1+v%3)
		a, b := ofTwo(p, r, v), ofTwo(q, r, v)
		both(t, p, r, v, a.r)
		both(t, times(p, q), r, v, times(a.r, b.r))
		both(t, less(p), r, v, times(a.r, power(read("-1"), view.Degree(r, v))))
		both(t, times(p, r), times(q, r), v, nil)
		both(t, p, nil, v, nil)
		g, _ := content.Gcd(p, q)
		if a := ofTwo(p, q, v); a.ok != (view.Degree(g, v) > 0) {
			t.Errorf("%s: %t, they have %s in common", named(p, q, v), a.ok, text(g))
		}
	}
}

// P14.1: exponents as great as they may be.
func TestGreatExponents(t *testing.T) {
	for _, l := range [][3]string{
		{"x1^5000*x2+1", "x2-x1^5000", "-x1^10000-1"}, {"x1^10000*x2+1", "x1*x2+1", "x1^10000-x1"}, {"x1^10000", "x2+1", "x1^10000"}, {"x2-x1^10000", "x2+x1^10000", "2*x1^10000"},
		{"x1^6000*x2^2+1", "x2+1", "x1^6000+1"}, {"x1^250*x2^40-1", "x1^250", "x1^10000"}, {"x1^5000", "x2^2+x1^9999*x2+1", "x1^10000"}, {"x1^5000*x2^2+x1^7", "x1^2500*x2-1", "x1^5007+x1^5000"},
		{"x1^10000*x2+1", "x1^10000*x2+1", "0"}, {"x1^10000*x2*x3^10000-x4^10000", "x2*x5^10000-x6^10000", "x4^10000*x5^10000-x1^10000*x3^10000*x6^10000"},
	} {
		both(t, read(l[0]), read(l[1]), 2, read(l[2]))
	}
}

// P14.1: where one of the resultant itself is too great: ErrExp, and nothing beside it.
func TestTooGreat(t *testing.T) {
	for _, l := range [][2]string{
		{"x1^5000*x2+1", "x2-x1^5001"}, {"x1^5001", "x2^2+1"}, {"x1^251*x2^40-1", "x1^251"}, {"x2^2-x1^5001", "x2^2+x1^5001"}, {"x1^10000*x2^20+1", "x1^10000*x2^20+x2-1"}, {"x2*x200^10000+1", "x1*x2-x200"},
	} {
		p, q := read(l[0]), read(l[1])
		told(t, named(p, q, 2), ofTwo(p, q, 2), refused(api.ErrExp))
		told(t, named(q, p, 2), ofTwo(q, p, 2), refused(api.ErrExp))
	}
}

// Long numbers: as many limbs as products have.
func TestLongNumbers(t *testing.T) {
	next := source()
	long := func() api.Poly {
		x := api.Int{Neg: next(2) == 0, Mag: make([]uint32, 100)}
		for i := range x.Mag {
			x.Mag[i] = uint32(1 + next(math.MaxInt32))
		}
		return poly.Number(x)
	}
	for range 5 {
		var l [2]api.Poly
		for i := range l {
			for range 4 {
				l[i], _ = poly.Add(times(l[i], read("x1")), long())
			}
		}
		agrees(t, next, l[0], l[1], 1)
	}
}

// Many variables, with exponents as great as they may be together.
func TestManyVariables(t *testing.T) {
	var p, q []api.Term
	for v := 1; v < vars; v++ {
		p = append(p, term(int64(v), v, v))
		q = append(q, term(int64(-v), v, most-v))
	}
	a, b, x := sum(p...), sum(q...), read("x200")
	first, _ := poly.Add(times(a, x), read("1"))
	second, _ := poly.Add(b, x)
	want, _ := poly.Sub(times(a, b), read("1"))
	both(t, first, second, vars, want)
}
