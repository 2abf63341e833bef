package poly_test

import (
	"math"
	"math/big"
	"slices"
	"strconv"
	"testing"

	"porism/api"
	"porism/poly"
)

const (
	vars = api.MaxVars
	most = api.MaxExp
	top  = math.MaxUint32
)

// asInt tells the canonical Int of one of the library's numbers.
func asInt(n *big.Int) api.Int {
	x := api.Int{Neg: n.Sign() < 0}
	left, limb := new(big.Int).Abs(n), new(big.Int)
	for left.Sign() > 0 {
		x.Mag = append(x.Mag, uint32(limb.And(left, big.NewInt(top)).Uint64()))
		left.Rsh(left, 32)
	}
	return x
}

// number tells in the library's numbers what an Int stands for.
func number(x api.Int) *big.Int {
	n := new(big.Int)
	for _, limb := range slices.Backward(x.Mag) {
		n.Or(n.Lsh(n, 32), big.NewInt(int64(limb)))
	}
	if x.Neg {
		n.Neg(n)
	}
	return n
}

// of is a monomial of variables and exponents by turns; it may be one that may not be.
func of(l ...int) api.Mono {
	m := api.Mono{}
	for i := 0; i+1 < len(l); i += 2 {
		m = append(m, api.Power{Var: l[i], Exp: l[i+1]})
	}
	return m
}

// term is a term of a number, and variables and exponents by turns.
func term(c int64, l ...int) api.Term {
	return api.Term{C: asInt(big.NewInt(c)), M: of(l...)}
}

// row is a polynomial of terms as they stand; it may be one that may not be.
func row(l ...api.Term) api.Poly { return l }

// exponents are those of all variables, by their numbers.
type exponents [vars + 1]uint16

// model is the tests' other way to write a polynomial: the numbers, also of 0, by their exponents, which may be too great.
type model map[exponents]*big.Int

// put adds n times the monomial of x.
func (m model) put(x exponents, n *big.Int) {
	if m[x] == nil {
		m[x] = new(big.Int)
	}
	m[x].Add(m[x], n)
}

func spread(m api.Mono) (x exponents) {
	for _, p := range m {
		x[p.Var] = uint16(p.Exp)
	}
	return x
}

// modelOf tells the sum of terms whose monomials may be.
func modelOf(l []api.Term) model {
	m := model{}
	for _, t := range l {
		m.put(spread(t.M), number(t.C))
	}
	return m
}

// plus tells a + k b.
func plus(a, b model, k int64) model {
	m := model{}
	for x, n := range a {
		m.put(x, n)
	}
	for x, n := range b {
		m.put(x, new(big.Int).Mul(n, big.NewInt(k)))
	}
	return m
}

func times(a, b model) model {
	m := model{}
	for x, n := range a {
		for y, k := range b {
			z := x
			for v := range z {
				z[v] += y[v]
			}
			m.put(z, new(big.Int).Mul(n, k))
		}
	}
	return m
}

// falling tells 1, 0 or -1, as a is less than b, the same, greater: by the greatest variable in which they differ.
func falling(a, b exponents) int {
	for v := vars; v > 0; v-- {
		if a[v] != b[v] {
			return int(b[v]) - int(a[v])
		}
	}
	return 0
}

// asPoly tells the polynomial of a model, and whether no exponent is too great.
func asPoly(m model) (api.Poly, bool) {
	var keys []exponents
	for x, n := range m {
		if n.Sign() != 0 {
			keys = append(keys, x)
		}
	}
	slices.SortFunc(keys, falling)
	var p api.Poly
	for _, x := range keys {
		t := api.Term{C: asInt(m[x])}
		for v, exp := range x {
			if exp > most {
				return nil, false
			}
			if exp > 0 {
				t.M = append(t.M, api.Power{Var: v, Exp: int(exp)})
			}
		}
		p = append(p, t)
	}
	return p, true
}

// equal tells the tests' own way whether both have the same terms as they stand.
func equal(p, q api.Poly) bool {
	if len(p) != len(q) {
		return false
	}
	for i := range p {
		if p[i].C.Neg != q[i].C.Neg || !slices.Equal(p[i].C.Mag, q[i].C.Mag) || !slices.Equal(p[i].M, q[i].M) {
			return false
		}
	}
	return true
}

// text tells a list of terms for a failure's line.
func text(p api.Poly) string {
	s := strconv.Itoa(len(p)) + " terms:"
	for _, t := range p[:min(len(p), 6)] {
		s += " " + number(t.C).String()
		for _, w := range t.M[:min(len(t.M), 6)] {
			s += " x" + strconv.Itoa(w.Var) + "^" + strconv.Itoa(w.Exp)
		}
		s += ","
	}
	return s
}

// told fails unless got is want, term by term and number by number, and there is no error.
func told(t *testing.T, what string, got api.Poly, e api.Errno, want api.Poly) {
	t.Helper()
	if e != api.OK || !equal(got, want) {
		t.Errorf("%s: error %d, %s want %s", what, e, text(got), text(want))
	}
}

// toldModel fails unless got is what the model stands for; or ErrExp is told alone, where an exponent is too great.
func toldModel(t *testing.T, what string, got api.Poly, e api.Errno, want model) {
	t.Helper()
	p, ok := asPoly(want)
	if !ok {
		nothing(t, what, got, e, api.ErrExp)
		return
	}
	told(t, what, got, e, p)
}

// nothing fails unless the error is told alone.
func nothing(t *testing.T, what string, p api.Poly, got, want api.Errno) {
	t.Helper()
	if got != want || len(p) != 0 {
		t.Errorf("%s: error %d, want %d, with %s", what, got, want, text(p))
	}
}

// sum is the polynomial of terms in whatever order, by the tests' own way.
func sum(l ...api.Term) api.Poly {
	p, _ := asPoly(modelOf(l))
	return p
}

// long is a number of some limbs: 2^(32 n) + k.
func long(n uint, k int64) api.Int {
	x := new(big.Int).Lsh(big.NewInt(1), 32*n)
	return asInt(x.Add(x, big.NewInt(k)))
}

// edges are polynomials that may be: 0, numbers, single terms, and some with the least and the greatest variables, exponents and numbers.
func edges() []api.Poly {
	all := make([]api.Term, vars)
	for i := range all {
		all[i] = term(int64(i-100), i+1, 1+i%3)
	}
	return []api.Poly{
		nil, {}, row(term(1)), row(term(-1)), row(term(2)), row(term(-6)), row(term(math.MaxInt64)), row(term(math.MinInt64)), row(term(1 << 32)),
		row(api.Term{C: long(3, 0)}), row(api.Term{C: long(5, -1), M: of(1, 1)}), row(term(1, 1, 1)), row(term(-1, 1, 1)), row(term(1, vars, 1)), row(term(-3, 1, most)), row(term(7, vars, most)),
		row(term(1, 1, most/2)), row(term(1, 1, most/2+1)), row(term(4, 1, most, vars, most)), row(term(1, 1, most-1, 7, 1)),
		sum(term(1, 1, 1), term(1)), sum(term(1, 1, 1), term(-1)), sum(term(2, 1, 1), term(3)), sum(term(1, 2, 1), term(1, 1, 1)), sum(term(1, 2, 1), term(-1, 1, 1)),
		sum(term(6, 2, 1), term(-4, 1, 1)), sum(term(-6, 2, 1), term(4, 1, 1), term(10)), sum(term(1, 2, 2), term(-1, 1, 2)), sum(term(1, 1, most), term(-1)), sum(term(1, vars, 1), term(1, 1, most), term(5)),
		sum(api.Term{C: long(2, 0), M: of(3, 1)}, api.Term{C: long(2, 0), M: of(2, 1)}, term(-1<<32)), sum(term(1, 1, 1, 2, 1, 3, 1), term(1, 1, 1, 2, 1), term(1, 1, 1), term(1)), sum(all...),
	}
}

// source tells numbers by a rule: the same ones at each run.
func source() func(below int) int {
	seed := uint64(0x9e3779b97f4a7c15)
	return func(below int) int {
		seed ^= seed << 13
		seed ^= seed >> 7
		seed ^= seed << 17
		return int(seed>>33) % below
	}
}

// made is a polynomial of some terms, of few variables with small exponents; some numbers are long.
func made(next func(below int) int, terms int) api.Poly {
	var l []api.Term
	few, exps := 1+next(4), 1+next(4)
	for range terms {
		t := term(int64(next(9) - 4))
		if next(8) == 0 {
			t.C = long(uint(1+next(3)), int64(next(5)-2))
			t.C.Neg = next(2) == 0
		}
		for v := 1; v <= few; v++ {
			if exp := next(exps + 1); exp > 0 {
				t.M = append(t.M, api.Power{Var: v * v, Exp: exp})
			}
		}
		l = append(l, t)
	}
	return sum(l...)
}

// some are many polynomials of up to that many terms.
func some(count, terms int) []api.Poly {
	next := source()
	list := make([]api.Poly, count)
	for i := range list {
		list[i] = made(next, next(terms+1))
	}
	return list
}

// singles are all that may be in these tests.
func singles() []api.Poly { return append(edges(), some(300, 12)...) }

// pairs hands on all pairs of edges, and many others: short ones, and short and long ones.
func pairs(yield func(p, q api.Poly)) {
	for _, p := range edges() {
		for _, q := range edges() {
			yield(p, q)
		}
	}
	list := some(600, 9)
	for i := range len(list) - 1 {
		yield(list[i], list[i+1])
	}
	for i, p := range some(20, 150) {
		yield(p, list[i])
		yield(list[i], p)
	}
}

// wrong are polynomials that may not be.
func wrong() []api.Poly {
	nought, too := api.Int{Mag: []uint32{5, 0}}, term(1, 1, most+1)
	list := []api.Poly{
		row(term(0)), row(term(0, 1, 1)), row(api.Term{C: api.Int{Neg: true}}), row(api.Term{C: api.Int{Mag: []uint32{0}}}), row(api.Term{}),
		row(api.Term{C: nought}), row(api.Term{C: nought, M: of(1, 1)}), row(api.Term{C: api.Int{Neg: true, Mag: []uint32{0, 0}}, M: of(1, 1)}),
		row(term(1), term(1)), row(term(1, 1, 1), term(1, 1, 1)), row(term(1, 1, 1), term(-1, 1, 1)), row(term(1), term(1, 1, 1)), row(term(1, 1, 1), term(1, 2, 1)), row(term(1, 1, 1), term(1, 1, 2)),
		row(term(1, 1, 9), term(1, 2, 1)), row(term(1, 1, 1, 3, 1), term(1, 2, 1, 3, 1)), row(term(1, 2, 1), term(1, 3, 1), term(1, 1, 1)), row(term(1, 3, 1), term(1, 1, 1), term(1, 2, 1)),
		row(term(1, 3, 1), term(1, 2, 1), term(1, 2, 1)), row(term(1, 3, 1), term(1, 2, 1), term(0, 1, 1)), row(term(1, 3, 1), term(0, 2, 1), term(1, 1, 1)), row(term(0, 3, 1), term(1, 2, 1)),
		row(term(1, 3, 1), api.Term{C: nought}), row(api.Term{C: nought, M: of(3, 1)}, term(1)), row(too), row(term(1, 2, 1), too), row(too, term(1)),
		row(term(1, 0, 1)), row(term(1, vars+1, 1)), row(term(1, 1, 0)), row(term(1, 1, -1)), row(term(1, 2, 1, 1, 1)), row(term(1, 1, 1, 1, 1)), row(term(1, math.MaxInt, math.MaxInt)), row(term(1, math.MinInt, 1)),
		make(api.Poly, 1000),
	}
	good := sum(term(1, 4, 1), term(2, 3, 1), term(3, 2, 1), term(4, 1, 1), term(5))
	for at := range good { // one that is wrong at any place
		for _, t := range []api.Term{{}, too, {C: nought, M: good[at].M}, {M: good[at].M}, {C: api.Int{Neg: true}, M: good[at].M}} {
			p := slices.Clone(good)
			p[at] = t
			list = append(list, p)
		}
		if at > 0 {
			p := slices.Clone(good)
			p[at], p[at-1] = p[at-1], p[at]
			q := slices.Clone(good)
			q[at].M = q[at-1].M
			list = append(list, p, q)
		}
	}
	return list
}

func TestExamples(t *testing.T) {
	a, b := sum(term(1, 2, 1), term(1, 1, 1)), sum(term(1, 2, 1), term(-1, 1, 1))
	square := sum(term(1, 2, 2), term(-1, 1, 2))
	p, e := poly.Times(a, b)
	told(t, "Times", p, e, square)
	p, e = poly.Over(a, b)
	nothing(t, "Over", p, e, api.ErrNone)
	p, e = poly.Times(square, a)
	told(t, "Times", p, e, row(term(1, 2, 3), term(1, 1, 1, 2, 2), term(-1, 1, 2, 2, 1), term(-1, 1, 3)))
	p, e = poly.Over(square, a)
	told(t, "Over", p, e, b)
	even := row(term(6, 2, 1), term(-4, 1, 1))
	if c := number(poly.Content(even)).Int64(); c != 2 {
		t.Error("Content:", c)
	}
	p, e = poly.Whole(even)
	told(t, "Whole", p, e, row(term(3, 2, 1), term(-2, 1, 1)))
}

// P8.1
func TestMay(t *testing.T) {
	for _, p := range singles() {
		if !poly.May(p) {
			t.Errorf("May of %s: false", text(p))
		}
	}
	for _, p := range wrong() {
		if poly.May(p) {
			t.Errorf("May of %s: true", text(p))
		}
	}
}

// P8.1: each pair of monomials has one order in which it may be.
func TestMayOfPairs(t *testing.T) {
	var list []api.Mono
	for _, p := range edges() {
		for _, t := range p {
			list = append(list, t.M)
		}
	}
	for _, a := range list {
		for _, b := range list {
			want := falling(spread(a), spread(b)) < 0
			if p := row(api.Term{C: long(0, 0), M: a}, api.Term{C: long(1, 0), M: b}); poly.May(p) != want {
				t.Errorf("May of %s: %v", text(p), !want)
			}
		}
	}
}

// P8.1: what may not be is ErrArg, ahead of all other errors.
func TestWrongRefused(t *testing.T) {
	check := func(p, q api.Poly) {
		t.Helper()
		for _, two := range []func(p, q api.Poly) (api.Poly, api.Errno){poly.Add, poly.Sub, poly.Times, poly.Over} {
			r, e := two(p, q)
			nothing(t, text(p)+" with "+text(q), r, e, api.ErrArg)
		}
	}
	for i, bad := range wrong() {
		for _, good := range edges() {
			check(bad, good)
			check(good, bad)
		}
		check(bad, bad)
		check(bad, wrong()[(i+1)%len(wrong())])
		for _, one := range []func(p api.Poly) (api.Poly, api.Errno){poly.Neg, poly.Whole} {
			p, e := one(bad)
			nothing(t, text(bad), p, e, api.ErrArg)
		}
		for _, n := range []int{-1, 0, 1, 2, 100, 101} {
			p, e := poly.Pow(bad, n)
			nothing(t, "Pow of "+text(bad), p, e, api.ErrArg)
		}
		for _, c := range []api.Int{{}, asInt(big.NewInt(3))} {
			for _, m := range []api.Mono{nil, of(1, most), of(2, 0)} {
				p, e := poly.Shift(bad, c, m)
				nothing(t, "Shift of "+text(bad), p, e, api.ErrArg)
			}
		}
	}
	check(row(term(1, 1, most), term(1)), row(term(1, 1, most), term(0))) // ErrExp, if it were asked first
	check(row(term(0)), nil)                                              // ErrZero, if it were asked first
}

// P8.1: a monomial that may not be is ErrArg, also beside the number 0 or what would be 0.
func TestWrongMonomials(t *testing.T) {
	for _, m := range []api.Mono{
		of(0, 1), of(-1, 1), of(vars+1, 1), of(1, 0), of(1, -1), of(1, most+1), of(2, 1, 1, 1), of(1, 1, 1, 1), of(1, 1, 2, 0), of(math.MaxInt, 1), of(1, math.MinInt), of(1<<32+1, 1), make(api.Mono, 300),
	} {
		for _, c := range []int64{0, 1, -5} {
			bad := api.Term{C: asInt(big.NewInt(c)), M: m}
			for _, l := range [][]api.Term{{bad}, {term(1, 1, 1), bad}, {bad, term(1, 1, 1)}, {bad, bad}, {term(1), bad, term(0)}} {
				p, e := poly.Of(l)
				nothing(t, "Of "+text(l), p, e, api.ErrArg)
			}
			for _, q := range edges() {
				p, e := poly.Shift(q, bad.C, m)
				nothing(t, "Shift by "+text(row(bad)), p, e, api.ErrArg)
			}
		}
	}
}

// P8.1: what may not be is as 0, where no error is told.
func TestWrongAsZero(t *testing.T) {
	for _, bad := range wrong() {
		if l, ok := poly.Lead(bad); ok || !equal(row(l), row(api.Term{})) {
			t.Errorf("Lead of %s: %v, %v", text(bad), l, ok)
		}
		if n := poly.Limbs(bad); n != 0 {
			t.Errorf("Limbs of %s: %d", text(bad), n)
		}
		if c := poly.Content(bad); c.Neg || len(c.Mag) != 0 {
			t.Errorf("Content of %s: %v", text(bad), c)
		}
	}
}

// loose are Ints that are not canonical, and what they stand for.
func loose() map[int64][]api.Int {
	return map[int64][]api.Int{
		0:           {{Neg: true}, {Mag: []uint32{0}}, {Neg: true, Mag: []uint32{0, 0, 0}}, {Mag: []uint32{}}},
		5:           {{Mag: []uint32{5, 0}}, {Mag: []uint32{5, 0, 0, 0}}},
		-7:          {{Neg: true, Mag: []uint32{7, 0}}},
		1<<32 + 1:   {{Mag: []uint32{1, 1, 0}}},
		-(1 << 33):  {{Neg: true, Mag: []uint32{0, 2, 0, 0}}},
		1<<32 - 1:   {{Mag: []uint32{top, 0}}},
		-(1 << 31):  {{Neg: true, Mag: []uint32{1 << 31, 0}}},
		math.MinInt: {{Neg: true, Mag: []uint32{0, 1 << 31, 0}}},
	}
}

// P8.1: numbers that are not canonical stand for the canonical ones.
func TestLooseNumbers(t *testing.T) {
	for n, list := range loose() {
		for _, c := range append(list, asInt(big.NewInt(n))) {
			p := poly.Number(c)
			told(t, "Number", p, api.OK, sum(term(n)))
			p, e := poly.Of([]api.Term{{C: c, M: of(2, 3)}, term(4), {C: c, M: of(2, 3)}})
			told(t, "Of", p, e, sum(term(n, 2, 3), term(n, 2, 3), term(4)))
			p, e = poly.Shift(sum(term(3, 1, 2), term(-1)), c, of(1, 1))
			told(t, "Shift", p, e, asMade(times(modelOf(row(term(3, 1, 2), term(-1))), modelOf(row(term(n, 1, 1))))))
		}
	}
}

// asMade tells the polynomial of a model without exponents that are too great.
func asMade(m model) api.Poly {
	p, _ := asPoly(m)
	return p
}

// P8.1: terms in whatever order, of one monomial as many as there are, also of the number 0.
func TestOf(t *testing.T) {
	next := source()
	for _, p := range append(singles(), some(20, 300)...) {
		l := slices.Concat(p, p, row(term(0), term(0, vars, most), term(3, 1, 1), term(-3, 1, 1)))
		for i := range l {
			j := next(i + 1)
			l[i], l[j] = l[j], l[i]
		}
		q, e := poly.Of(l)
		toldModel(t, "Of", q, e, modelOf(l))
		q, e = poly.Of(p)
		told(t, "Of what may be", q, e, p)
	}
	for _, l := range [][]api.Term{
		nil, {}, {term(0)}, {term(0, 1, 1), term(0, 1, 1)}, {term(2), term(-2)}, {term(1, 1, 1), term(3), term(2, 1, 1), term(-3), term(5, 2, 1)},
		{term(1, 1, 1), term(1, 2, 1), term(-1, 1, 1), term(-1, 2, 1)}, {term(1, 1, 1), term(-1, 1, 1), term(1, 1, 1)}, {term(-1, 1, 1), term(7), term(1, 1, 1), term(4, 1, 2)},
		{term(top), term(1)}, {term(1, 1, 1), term(1, 1, 2), term(1, 1, 3), term(1, 2, 1)}, slices.Repeat([]api.Term{term(1, 1, 1), term(-2)}, 500),
	} {
		p, e := poly.Of(l)
		toldModel(t, "Of "+text(l), p, e, modelOf(l))
	}
}

// P8.1
func TestNumberAndVar(t *testing.T) {
	for _, p := range edges() {
		for _, one := range p {
			told(t, "Number", poly.Number(one.C), api.OK, row(api.Term{C: one.C}))
		}
	}
	told(t, "Number of 0", poly.Number(api.Int{}), api.OK, nil)
	ints := []int{math.MinInt, -1, 0, 1, 2, 199, 200, 201, 9999, 10000, 10001, 1<<32 + 1, math.MaxInt}
	for _, v := range ints {
		for _, exp := range ints {
			p, e := poly.Var(v, exp)
			if 1 <= v && v <= 200 && 1 <= exp && exp <= 10000 {
				told(t, "Var", p, e, row(term(1, v, exp)))
			} else {
				nothing(t, "Var", p, e, api.ErrArg)
			}
		}
	}
}

// P8.2: as they stand, whether they may be or not.
func TestSame(t *testing.T) {
	list := slices.Concat(edges()[1:], wrong(), some(40, 3))
	for _, n := range []api.Int{{Mag: []uint32{1}}, {Mag: []uint32{1, 0}}, {Neg: true, Mag: []uint32{1}}, {Neg: true}, {}, {Mag: []uint32{0}}, {Mag: []uint32{0, 1}}} {
		for _, m := range []api.Mono{nil, of(0, 0), of(1, 1), of(1, 2), of(2, 1), of(1, 1, 2, 1), of(2, 1, 1, 1)} {
			list = append(list, row(api.Term{C: n, M: m}), row(term(2, 3, 1), api.Term{C: n, M: m}))
		}
	}
	for _, p := range list {
		if !poly.Same(p, deep(p)) {
			t.Errorf("%s is not the same as itself", text(p))
		}
		for _, q := range list {
			if poly.Same(p, q) != equal(p, q) {
				t.Errorf("Same of %s and %s: %v", text(p), text(q), !equal(p, q))
			}
		}
	}
	if !poly.Same(nil, api.Poly{}) || !poly.Same(row(api.Term{}), row(api.Term{C: api.Int{Mag: []uint32{}}, M: api.Mono{}})) {
		t.Error("a list that is not there and an empty one are not the same")
	}
	if poly.Same(row(term(1, 1, 1)), row(term(1, 1, 1), term(0))) || poly.Same(row(term(0)), nil) || poly.Same(row(term(1), term(2)), row(term(2), term(1))) {
		t.Error("the same, though not as they stand")
	}
}

// P8.2
func TestLeadAndLimbs(t *testing.T) {
	for _, p := range singles() {
		l, ok := poly.Lead(p)
		limbs := 0
		for _, one := range p {
			limbs = max(limbs, (number(one.C).BitLen()+31)/32)
		}
		if ok != (len(p) > 0) || !equal(row(l), append(slices.Clone(p), api.Term{})[:1]) {
			t.Errorf("Lead of %s: %v, %v", text(p), l, ok)
		}
		if n := poly.Limbs(p); n != limbs {
			t.Errorf("Limbs of %s: %d, want %d", text(p), n, limbs)
		}
	}
	for n, c := range []api.Int{{}, asInt(big.NewInt(top)), long(1, 0), long(2, 0), long(3, 5)} {
		if got := poly.Limbs(sum(term(1, 3, 1), api.Term{C: c, M: of(2, 1)}, term(-1))); got != max(n, 1) {
			t.Errorf("Limbs: %d, want %d", got, max(n, 1))
		}
	}
}

// P8.3
func TestSums(t *testing.T) {
	pairs(func(p, q api.Poly) {
		a, b := modelOf(p), modelOf(q)
		r, e := poly.Add(p, q)
		toldModel(t, "Add of "+text(p)+" and "+text(q), r, e, plus(a, b, 1))
		r, e = poly.Sub(p, q)
		toldModel(t, "Sub of "+text(p)+" and "+text(q), r, e, plus(a, b, -1))
	})
	for _, p := range singles() {
		r, e := poly.Neg(p)
		toldModel(t, "Neg of "+text(p), r, e, plus(nil, modelOf(p), -1))
		r, e = poly.Sub(p, p)
		told(t, "what is taken away from itself", r, e, nil)
	}
}

// P8.3
func TestProducts(t *testing.T) {
	pairs(func(p, q api.Poly) {
		r, e := poly.Times(p, q)
		toldModel(t, "Times of "+text(p)+" and "+text(q), r, e, times(modelOf(p), modelOf(q)))
		for _, by := range q[:min(len(q), 3)] {
			r, e = poly.Shift(p, by.C, by.M)
			toldModel(t, "Shift of "+text(p)+" by "+text(row(by)), r, e, times(modelOf(p), modelOf(row(by))))
		}
	})
	for _, p := range edges() {
		r, e := poly.Shift(p, api.Int{}, of(1, most, vars, most)) // no exponent is too great in 0
		told(t, "Shift by 0", r, e, nil)
		r, e = poly.Times(p, nil)
		told(t, "Times 0", r, e, nil)
		r, e = poly.Times(nil, p)
		told(t, "0 times", r, e, nil)
	}
	r, e := poly.Shift(nil, asInt(big.NewInt(2)), of(1, most))
	told(t, "Shift of 0", r, e, nil)
}

// P8.3: MaxExp is not too much, one more is: at whatever variable, and in whatever terms.
func TestGreatestExponent(t *testing.T) {
	two := asInt(big.NewInt(2))
	for v := 1; v <= vars; v++ {
		for _, exp := range []int{1, 2, most / 2, most - 1} {
			p := sum(term(1, v, exp), term(1))
			r, e := poly.Times(p, row(term(2, v, most-exp)))
			told(t, "Times", r, e, row(term(2, v, most), term(2, v, most-exp)))
			r, e = poly.Times(p, row(term(2, v, most-exp+1)))
			nothing(t, "Times", r, e, api.ErrExp)
			r, e = poly.Shift(p, two, of(v, most-exp))
			told(t, "Shift", r, e, row(term(2, v, most), term(2, v, most-exp)))
			r, e = poly.Shift(p, two, of(v, most-exp+1))
			nothing(t, "Shift", r, e, api.ErrExp)
		}
	}
	low := sum(term(1, 9, 1), term(1, 8, most-1), term(3)) // too great in a term that is not the lead
	r, e := poly.Times(low, sum(term(1, 9, 1), term(1, 8, 2)))
	nothing(t, "Times", r, e, api.ErrExp)
	r, e = poly.Times(low, sum(term(1, 9, 1), term(-1, 8, 1)))
	toldModel(t, "Times", r, e, times(modelOf(low), modelOf(row(term(1, 9, 1), term(-1, 8, 1)))))
	r, e = poly.Pow(low, 2)
	nothing(t, "Pow", r, e, api.ErrExp)
}

// P8.3
func TestPow(t *testing.T) {
	for _, p := range append(edges()[:31], some(60, 4)...) {
		want := modelOf(row(term(1)))
		for n := range 6 {
			r, e := poly.Pow(p, n)
			toldModel(t, "Pow of "+text(p)+" to "+strconv.Itoa(n), r, e, want)
			want = times(want, modelOf(p))
			if _, ok := asPoly(want); !ok {
				break // a model's exponents have no room for more
			}
		}
		for _, n := range []int{-1, 101, math.MinInt, math.MaxInt, 1 << 32} {
			r, e := poly.Pow(p, n)
			nothing(t, "Pow", r, e, api.ErrArg)
		}
	}
	for n, c := 0, big.NewInt(1); n <= 100; n++ {
		r, e := poly.Pow(sum(term(1, 1, 1), term(1)), n) // binomials
		if e != api.OK || len(r) != n+1 || number(r[n/2].C).Cmp(new(big.Int).Binomial(int64(n), int64(n/2))) != 0 {
			t.Errorf("Pow of x + 1 to %d: error %d, %s", n, e, text(r))
		}
		r, e = poly.Pow(row(term(-3, 2, 100)), n)
		want := row(api.Term{C: asInt(c), M: of(2, 100*n)})
		if n == 0 {
			want[0].M = nil
		}
		told(t, "Pow of a term", r, e, want)
		c = new(big.Int).Mul(c, big.NewInt(-3))
	}
}

// P8.3: a power's exponent of MaxExp is not too much, one more is; what is refused is refused ahead of the work.
func TestPowTooGreat(t *testing.T) {
	for _, c := range []struct{ exp, n int }{{100, 100}, {101, 99}, {10000, 1}, {5000, 2}, {3333, 3}, {10000, 0}} {
		want := row(term(1, 5, c.exp*c.n))
		if c.n == 0 {
			want[0].M = nil
		}
		r, e := poly.Pow(row(term(1, 5, c.exp)), c.n)
		told(t, "Pow", r, e, want)
	}
	for _, c := range []struct{ exp, n int }{{137, 73}, {101, 100}, {10000, 2}, {5001, 2}, {3334, 3}, {102, 99}, {10000, 100}} {
		r, e := poly.Pow(sum(term(1, 6, 1), term(1, 5, c.exp), term(-1)), c.n)
		nothing(t, "Pow", r, e, api.ErrExp)
	}
	var all []api.Term
	for v := range vars {
		all = append(all, term(1, v+1, 101))
	}
	r, e := poly.Pow(sum(all...), 100)
	nothing(t, "Pow", r, e, api.ErrExp)
}

// P8.4: what is multiplied is divided again; with 1 more there is no quotient.
func TestOver(t *testing.T) {
	one := row(term(1))
	pairs(func(p, q api.Poly) {
		product, ok := asPoly(times(modelOf(p), modelOf(q)))
		if !ok {
			return
		}
		r, e := poly.Over(product, q)
		if len(q) == 0 {
			nothing(t, "Over 0", r, e, api.ErrZero)
			return
		}
		told(t, text(product)+" over "+text(q), r, e, p)
		if equal(q, one) || equal(q, row(term(-1))) {
			return
		}
		more := asMade(plus(modelOf(product), modelOf(one), 1))
		r, e = poly.Over(more, q)
		nothing(t, text(more)+" over "+text(q), r, e, api.ErrNone)
	})
	for _, q := range singles() {
		r, e := poly.Over(nil, q)
		if len(q) == 0 {
			nothing(t, "0 over 0", r, e, api.ErrZero)
		} else {
			told(t, "0 over "+text(q), r, e, nil)
		}
		r, e = poly.Over(q, nil)
		nothing(t, "Over 0", r, e, api.ErrZero)
	}
}

// P8.4: quotients over the whole numbers, not over the rational ones, and by polynomials alone.
func TestNoQuotient(t *testing.T) {
	x, y := sum(term(1, 1, 1)), sum(term(1, 2, 1))
	for _, c := range [][2]api.Poly{
		{row(term(1)), row(term(2))}, {row(term(6)), row(term(4))}, {x, row(term(2))}, {row(term(2, 1, 1)), row(term(4))}, {sum(term(2, 1, 1), term(3)), row(term(2))}, {sum(term(3, 1, 1), term(2)), row(term(2))},
		{sum(term(2, 1, 1), term(2)), sum(term(4, 1, 1), term(4))}, {sum(term(1, 1, 1), term(1)), sum(term(2, 1, 1), term(2))}, {row(term(1)), x}, {x, y}, {y, x}, {x, row(term(1, 1, 2))}, {x, row(term(1, 1, 1, 2, 1))},
		{sum(term(1, 2, 1), term(1, 1, 1)), sum(term(1, 2, 1), term(-1, 1, 1))}, {sum(term(1, 2, 1), term(1, 1, 1)), y}, {sum(term(1, 2, 1), term(1, 1, 1)), x}, {x, sum(term(1, 1, 1), term(1))}, {sum(term(1, 1, 2), term(1)), sum(term(1, 1, 1), term(1))},
		{row(term(1, 2, most)), sum(term(1, 2, 1), term(-1, 1, 1))}, {sum(term(1, 2, most), term(1, 1, most)), sum(term(1, 2, 1), term(-1, 1, 1))}, {sum(term(1, 3, 60), term(1, 2, 60), term(1, 1, 60)), sum(term(1, 3, 1), term(1, 2, 1), term(1, 1, 1))},
		{sum(term(1, 2, 100), term(1, 1, most)), sum(term(1, 2, 1), term(-1, 1, most/2))}, {sum(term(1, 2, 2), term(-1, 1, 2)), sum(term(2, 2, 1), term(2, 1, 1))}, {row(api.Term{C: long(4, 1)}), row(api.Term{C: long(2, 0)})},
	} {
		r, e := poly.Over(c[0], c[1])
		nothing(t, text(c[0])+" over "+text(c[1]), r, e, api.ErrNone)
	}
	grows := sum(term(1, 3, most), term(1, 2, most), term(1, 1, 2)) // by the leads alone the quotient would get some n^2 terms ahead of the one that shows that there is none
	r, e := poly.Over(grows, sum(term(1, 3, 1), term(1, 2, 1), term(1, 1, 1)))
	nothing(t, "Over of what would grow", r, e, api.ErrNone)
	whole := sum(term(1, 2, most), term(-1, 1, most)) // y^n - x^n over y - x has n terms
	r, e = poly.Over(whole, sum(term(1, 2, 1), term(-1, 1, 1)))
	if e != api.OK || len(r) != most || !poly.May(r) || !equal(r[:1], row(term(1, 2, most-1))) || !equal(r[most-1:], row(term(1, 1, most-1))) {
		t.Errorf("y^n - x^n over y - x: error %d, %s", e, text(r))
	}
}

// small are all polynomials in x of degrees up to that, with numbers from -2 to 2, by their numbers.
func small(degree int) [][]int64 {
	list := [][]int64{nil}
	for range degree + 1 {
		var longer [][]int64
		for _, l := range list {
			for c := int64(-2); c <= 2; c++ {
				longer = append(longer, append(slices.Clone(l), c))
			}
		}
		list = longer
	}
	return list
}

// inX tells the polynomial in x of numbers, that of the lowest power first.
func inX(l []int64) api.Poly {
	var terms []api.Term
	for i, c := range l {
		t := term(c)
		if i > 0 {
			t = term(c, 1, i)
		}
		terms = append(terms, t)
	}
	return sum(terms...)
}

// divided tells, by long division in rational numbers, whether q times a polynomial over the whole numbers is p.
func divided(p, q []int64) bool {
	left := make([]*big.Rat, len(p))
	for i, c := range p {
		left[i] = big.NewRat(c, 1)
	}
	d := len(q) - 1
	for q[d] == 0 {
		d--
	}
	for at := len(p) - 1; at >= 0; at-- {
		if left[at].Sign() == 0 {
			continue
		}
		if at < d {
			return false
		}
		part := new(big.Rat).Quo(left[at], big.NewRat(q[d], 1))
		if !part.IsInt() {
			return false
		}
		for i := range d + 1 {
			left[at-d+i].Sub(left[at-d+i], new(big.Rat).Mul(part, big.NewRat(q[i], 1)))
		}
	}
	return true
}

// P8.4: all small polynomials in one variable by all others.
func TestOverInOneVariable(t *testing.T) {
	for _, q := range small(2) {
		by := inX(q)
		if len(by) == 0 {
			continue
		}
		for _, p := range small(3) {
			upper := inX(p)
			r, e := poly.Over(upper, by)
			if !divided(p, q) {
				nothing(t, text(upper)+" over "+text(by), r, e, api.ErrNone)
				continue
			}
			back, _ := asPoly(times(modelOf(r), modelOf(by)))
			told(t, text(upper)+" over "+text(by)+", times that", back, e, upper)
		}
	}
}

// P8.4
func TestContentAndWhole(t *testing.T) {
	check := func(p api.Poly) {
		t.Helper()
		common := new(big.Int)
		for _, one := range p {
			common.GCD(nil, nil, common, new(big.Int).Abs(number(one.C)))
		}
		if c := poly.Content(p); !equal(row(api.Term{C: c}), row(api.Term{C: asInt(common)})) {
			t.Errorf("Content of %s: %v, want %v", text(p), c, common)
		}
		if len(p) > 0 && p[0].C.Neg {
			common.Neg(common)
		}
		want := make(api.Poly, len(p))
		for i, one := range p {
			want[i] = api.Term{C: asInt(new(big.Int).Quo(number(one.C), common)), M: one.M}
		}
		r, e := poly.Whole(p)
		told(t, "Whole of "+text(p), r, e, want)
		again, e := poly.Whole(r)
		told(t, "Whole of what is whole", again, e, r)
	}
	for _, p := range singles() {
		check(p)
		for _, c := range []api.Int{asInt(big.NewInt(12)), asInt(big.NewInt(-35)), long(2, 0), long(3, -1)} {
			check(asMade(times(modelOf(p), model{exponents{}: number(c)})))
		}
	}
	check(sum(term(6, 3, 1), term(10, 2, 1), term(15, 1, 1)))
	check(sum(term(-6, 3, 1), term(-10, 2, 1), term(-14, 1, 1)))
	check(sum(term(math.MinInt64, 3, 1), term(1<<62, 2, 1)))
}

// What follows: sums and products have the laws of a ring; a product is 0 just if a factor is.
func TestRing(t *testing.T) {
	does := func(f func(p, q api.Poly) (api.Poly, api.Errno), p, q api.Poly) api.Poly {
		t.Helper()
		r, e := f(p, q)
		if e != api.OK || !poly.May(r) {
			t.Errorf("%s with %s: error %d, %s", text(p), text(q), e, text(r))
		}
		return r
	}
	same := func(what string, p, q api.Poly) {
		t.Helper()
		if !poly.Same(p, q) {
			t.Errorf("%s: %s and %s", what, text(p), text(q))
		}
	}
	list := some(400, 8)
	for i := range len(list) - 2 {
		a, b, c := list[i], list[i+1], list[i+2]
		ab, bc := does(poly.Times, a, b), does(poly.Times, b, c)
		same("a + b", does(poly.Add, a, b), does(poly.Add, b, a))
		same("a b", ab, does(poly.Times, b, a))
		same("(a + b) + c", does(poly.Add, does(poly.Add, a, b), c), does(poly.Add, a, does(poly.Add, b, c)))
		same("(a b) c", does(poly.Times, ab, c), does(poly.Times, a, bc))
		same("a (b + c)", does(poly.Times, a, does(poly.Add, b, c)), does(poly.Add, ab, does(poly.Times, a, c)))
		same("(a - b) + b", does(poly.Add, does(poly.Sub, a, b), b), a)
		if (len(ab) == 0) != (len(a) == 0 || len(b) == 0) {
			t.Errorf("%s times %s: %s", text(a), text(b), text(ab))
		}
	}
}

// Long ones: what has many terms is multiplied, and divided again.
func TestLong(t *testing.T) {
	next := source()
	wide := func(terms int) api.Poly {
		var l []api.Term
		for range terms {
			l = append(l, term(int64(1+next(99)), 1, 1+next(900), 2, 1+next(900), 3, 1+next(900)))
		}
		return sum(l...)
	}
	p, q := wide(300), wide(300)
	product, e := poly.Times(p, q)
	if e != api.OK || len(product) < 50000 || !poly.May(product) {
		t.Fatalf("Times: error %d, %s", e, text(product))
	}
	back, e := poly.Over(product, p)
	told(t, "Over", back, e, q)
	back, e = poly.Over(product, q)
	told(t, "Over", back, e, p)
	lead, ok := poly.Lead(product)
	if last := product[len(product)-1]; !ok || number(last.C).Int64() != number(p[299].C).Int64()*number(q[299].C).Int64() || number(lead.C).Int64() != number(p[0].C).Int64()*number(q[0].C).Int64() {
		t.Error("the first and the last term of a product are those of its factors")
	}
}

// deep tells the same terms in memory of their own, with marks behind all lists.
func deep(p api.Poly) api.Poly {
	mark := api.Term{C: api.Int{Mag: []uint32{77}}, M: of(7, 7)}
	q := make(api.Poly, 0, len(p)+2)
	for _, t := range p {
		t.C.Mag = append(slices.Clone(t.C.Mag), 77, 77)[:len(t.C.Mag)]
		t.M = append(slices.Clone(t.M), mark.M[0], mark.M[0])[:len(t.M)]
		q = append(q, t)
	}
	return append(q, mark, mark)[:len(p)]
}

// stays tells whether a deep one is still as it was made of p, also behind all lists.
func stays(q, p api.Poly) bool {
	fresh := deep(p)
	if !equal(q[:len(q)+2], fresh[:len(p)+2]) {
		return false
	}
	for i, t := range q {
		n, k := len(t.C.Mag)+2, len(t.M)+2
		if !slices.Equal(t.C.Mag[:n], fresh[i].C.Mag[:n]) || !slices.Equal(t.M[:k], fresh[i].M[:k]) {
			return false
		}
	}
	return true
}

// spoil fills all lists of an answer, also behind their lengths, each with marks of its own, and tells whether no list has another one's.
func spoil(p api.Poly) bool {
	p = p[:cap(p)]
	for i, t := range p {
		for j := range t.C.Mag[:cap(t.C.Mag)] {
			t.C.Mag[:cap(t.C.Mag)][j] = uint32(i)
		}
		for j := range t.M[:cap(t.M)] {
			t.M[:cap(t.M)][j] = api.Power{Var: -i, Exp: -i}
		}
	}
	for i, t := range p {
		for _, limb := range t.C.Mag[:cap(t.C.Mag)] {
			if limb != uint32(i) {
				return false
			}
		}
		for _, w := range t.M[:cap(t.M)] {
			if w.Var != -i {
				return false
			}
		}
	}
	clear(p)
	return true
}

// calls are all functions that tell terms of others; the last one asks the rest.
func calls() []func(p, q api.Poly) api.Poly {
	two := func(f func(p, q api.Poly) (api.Poly, api.Errno)) func(p, q api.Poly) api.Poly {
		return func(p, q api.Poly) api.Poly { r, _ := f(p, q); return r }
	}
	return []func(p, q api.Poly) api.Poly{
		two(poly.Add), two(poly.Sub), two(poly.Times), two(poly.Over),
		two(func(p, q api.Poly) (api.Poly, api.Errno) { return poly.Neg(p) }),
		two(func(p, q api.Poly) (api.Poly, api.Errno) { return poly.Whole(q) }),
		two(func(p, q api.Poly) (api.Poly, api.Errno) { return poly.Pow(p[:min(len(p), 3)], len(q)%4) }),
		two(func(p, q api.Poly) (api.Poly, api.Errno) { return poly.Of(p) }),
		two(func(p, q api.Poly) (api.Poly, api.Errno) {
			if len(q) == 0 {
				return nil, api.OK
			}
			return poly.Shift(p, q[0].C, q[0].M)
		}),
		func(p, q api.Poly) api.Poly { l, _ := poly.Lead(p); return row(l) },
		func(p, q api.Poly) api.Poly { return row(api.Term{C: poly.Content(q)}) },
		func(p, q api.Poly) api.Poly {
			if len(p) == 0 {
				return nil
			}
			return poly.Number(p[0].C)
		},
		func(p, q api.Poly) api.Poly {
			poly.May(p)
			poly.Same(p, q)
			poly.Limbs(q)
			return nil
		},
	}
}

// What is handed in stays, also behind all lengths; what is told is in memory of its own, and no two lists of it share any.
func TestMemory(t *testing.T) {
	list := slices.Concat(edges(), some(40, 12), some(4, 120), wrong())
	for i, call := range calls() {
		for at, p := range list {
			for _, q := range []api.Poly{p, nil, row(term(1)), row(term(-2, 1, 1)), list[(at*7+3)%len(list)]} {
				x, y := deep(p), deep(q)
				if !spoil(call(x, y)) {
					t.Errorf("call %d of %s and %s: two lists share memory", i, text(p), text(q))
				}
				if !stays(x, p) || !stays(y, q) {
					t.Errorf("call %d of %s and %s changed one: %s, %s", i, text(p), text(q), text(x), text(y))
				}
			}
		}
	}
}

// What is told once is told again, whatever was done to it: nothing is kept.
func TestNothingKept(t *testing.T) {
	other := sum(term(1, 1, 1), term(2))
	for i, call := range calls() {
		for _, p := range singles()[:60] {
			first := call(p, other)
			want := deep(first)
			spoil(first)
			told(t, "call "+strconv.Itoa(i)+" again", call(p, other), api.OK, want)
		}
	}
}

// The same memory may be both arguments, or parts of both.
func TestSharedArguments(t *testing.T) {
	for _, p := range singles() {
		a := deep(p)
		m := modelOf(p)
		r, e := poly.Add(a, a)
		toldModel(t, "Add of one and itself", r, e, plus(m, m, 1))
		r, e = poly.Sub(a, a)
		told(t, "Sub of one and itself", r, e, nil)
		r, e = poly.Times(a, a)
		toldModel(t, "Times of one and itself", r, e, times(m, m))
		if len(a) > 0 {
			r, e = poly.Over(a, a)
			told(t, "Over of one and itself", r, e, row(term(1)))
			r, e = poly.Add(a[:1], a[len(a)/2:])
			toldModel(t, "Add of parts", r, e, plus(modelOf(p[:1]), modelOf(p[len(p)/2:]), 1))
		}
		if !stays(a, p) {
			t.Errorf("one after all: %s, want %s", text(a), text(p))
		}
	}
}

// read makes terms of bytes, near what may be and beyond it.
func read(s []byte) api.Poly {
	p := api.Poly{}
	for ; len(s) > 3; s = s[4:] {
		one := api.Term{C: asInt(big.NewInt(int64(int8(s[0]))))}
		if s[0] == 99 {
			one.C.Mag = append(one.C.Mag, 0)
		}
		for v, exp := range s[1:3] {
			if exp > 0 {
				one.M = append(one.M, api.Power{Var: v + 1, Exp: int(exp % 16)})
			}
		}
		if s[3] > 250 {
			one.M = append(one.M, api.Power{Var: int(s[3]) - 54, Exp: most - 10})
		}
		p = append(p, one)
	}
	return p[:min(len(p), 16)]
}

// mayBe tells the tests' own way whether one may be.
func mayBe(p api.Poly) bool {
	for _, t := range p {
		below := 0
		for _, w := range t.M {
			if w.Var <= below || w.Var > vars || w.Exp < 1 || w.Exp > most {
				return false
			}
			below = w.Var
		}
	}
	return equal(p, asMade(modelOf(p)))
}

// Whatever two lists are: told as by their models, or refused.
func FuzzBoth(f *testing.F) {
	f.Add([]byte{}, []byte{})
	f.Add([]byte{1, 0, 1, 0, 1, 1, 0, 0}, []byte{1, 0, 1, 0, 255, 1, 0, 0})
	f.Add([]byte{1, 0, 0, 254, 3, 2, 2, 0}, []byte{2, 0, 0, 254})
	f.Add([]byte{99, 0, 0, 0}, []byte{1, 16, 0, 0})
	f.Add([]byte{6, 0, 2, 0, 252, 1, 0, 0}, []byte{2, 0, 0, 0})
	f.Fuzz(func(t *testing.T, s, u []byte) {
		p, q := read(s), read(u)
		if poly.May(p) != mayBe(p) || poly.May(q) != mayBe(q) {
			t.Fatalf("May of %s or %s", text(p), text(q))
		}
		add, e := poly.Add(p, q)
		product, f := poly.Times(p, q)
		quotient, g := poly.Over(p, q)
		if !mayBe(p) || !mayBe(q) {
			nothing(t, "Add", add, e, api.ErrArg)
			nothing(t, "Times", product, f, api.ErrArg)
			nothing(t, "Over", quotient, g, api.ErrArg)
			return
		}
		toldModel(t, "Add", add, e, plus(modelOf(p), modelOf(q), 1))
		toldModel(t, "Times", product, f, times(modelOf(p), modelOf(q)))
		switch {
		case len(q) == 0:
			nothing(t, "Over", quotient, g, api.ErrZero)
		case g == api.OK:
			toldModel(t, "the quotient times q", p, g, times(modelOf(quotient), modelOf(q)))
		default:
			nothing(t, "Over", quotient, g, api.ErrNone)
		}
		if len(q) > 0 && f == api.OK {
			back, e := poly.Over(product, q)
			told(t, "the product over q", back, e, p)
		}
	})
}
