package view_test

import (
	"math"
	"slices"
	"strconv"
	"testing"

	"porism/api"
	"porism/poly"
	"porism/view"
	"porism/whole"
)

const (
	vars = api.MaxVars
	most = api.MaxExp
)

// of is a monomial of variables and exponents by turns; it may be one that may not be.
func of(l ...int) api.Mono {
	m := api.Mono{}
	for i := 0; i+1 < len(l); i += 2 {
		m = append(m, api.Power{Var: l[i], Exp: l[i+1]})
	}
	return m
}

// term is a term of a number, and variables and exponents by turns.
func term(c int64, l ...int) api.Term {
	return api.Term{C: whole.Of(c), M: of(l...)}
}

// row is a polynomial of terms as they stand; it may be one that may not be.
func row(l ...api.Term) api.Poly { return l }

// sum is the polynomial of terms in whatever order.
func sum(l ...api.Term) api.Poly {
	p, _ := poly.Of(l)
	return p
}

// long is a number of so many limbs, and one more.
func long(limbs int) api.Int {
	x := api.Int{Mag: make([]uint32, limbs+1)}
	x.Mag[0], x.Mag[limbs] = 7, 1
	return x
}

// text tells a list of terms for a failure's line.
func text(p api.Poly) string {
	s := strconv.Itoa(len(p)) + " terms:"
	for _, t := range p[:min(len(p), 6)] {
		n, _ := whole.Small(t.C)
		s += " " + strconv.FormatInt(n, 10)
		for _, w := range t.M[:min(len(t.M), 6)] {
			s += " x" + strconv.Itoa(w.Var) + "^" + strconv.Itoa(w.Exp)
		}
		s += ","
	}
	return s
}

func texts(l []api.Poly) string {
	s := strconv.Itoa(len(l)) + " polynomials:"
	for _, p := range l[:min(len(l), 6)] {
		s += " (" + text(p) + ")"
	}
	return s
}

// told fails unless got is want, term by term, and may be.
func told(t *testing.T, what string, got, want api.Poly) {
	t.Helper()
	if !poly.Same(got, want) || !poly.May(got) {
		t.Errorf("%s: %s, want %s", what, text(got), text(want))
	}
}

// does tells the answer of a call that must not be refused.
func does(t *testing.T, p api.Poly, e api.Errno) api.Poly {
	t.Helper()
	if e != api.OK {
		t.Errorf("error %d, with %s", e, text(p))
	}
	return p
}

// nothing fails unless the error is told alone.
func nothing(t *testing.T, what string, p api.Poly, got, want api.Errno) {
	t.Helper()
	if got != want || len(p) != 0 {
		t.Errorf("%s: error %d, want %d, with %s", what, got, want, text(p))
	}
}

// edges are polynomials that may be: 0, numbers, single terms, and some with the least and the greatest variables, exponents and numbers.
func edges() []api.Poly {
	all := make([]api.Term, vars)
	for i := range all {
		all[i] = term(int64(i-100), i+1, 1+i%3)
	}
	return []api.Poly{
		nil, {}, row(term(1)), row(term(-1)), row(term(7)), row(term(math.MinInt64)), row(api.Term{C: long(3)}),
		row(term(1, 1, 1)), row(term(-1, 1, 1)), row(term(5, 2, 1)), row(term(1, vars, 1)), row(term(-3, 1, most)), row(term(7, vars, most)), row(term(4, 1, most, vars, most)), row(term(2, 1, most-1, 7, 1)),
		sum(term(1, 1, 1), term(1)), sum(term(2, 2, 1), term(3)), sum(term(1, 2, 1), term(1, 1, 1)), sum(term(1, 2, 1), term(-1, 1, 2)), sum(term(1, 1, 2, 2, 1), term(-1, 1, 2)), sum(term(1, 1, most), term(-1)),
		sum(term(1, 1, 1, 2, 2), term(3, 2, 2), term(5, 1, 1)), sum(term(1, 1, 3, 2, 1), term(1, 1, 1, 2, 3), term(1, 1, 2, 2, 2)), sum(term(1, vars, 1), term(1, 1, most), term(5)), sum(term(1, vars, most), term(1, vars, most-1), term(2)),
		sum(term(1, 1, 5, 2, 1, 3, 2), term(1, 1, 7, 3, 2), term(1, 2, 9, 3, 1), term(1, 1, 9), term(1, 2, 4)), sum(term(1, 1, 1, 2, 1, 3, 1), term(1, 1, 1, 2, 1), term(1, 1, 1), term(1)),
		sum(api.Term{C: long(2), M: of(3, 2)}, api.Term{C: long(4), M: of(2, 1, 3, 2)}, api.Term{C: long(1), M: of(2, 6)}, term(-1<<32)), sum(term(3, 2, 100, 4, 1), term(3, 2, 99, 4, 1), term(-3, 2, 100)), sum(all...),
	}
}

// source tells numbers by a rule: the same ones at each run.
func source() func(below int) int {
	seed := uint64(0x9e3779b97f4a7c15)
	return func(below int) int {
		seed ^= seed << 13
		seed ^= seed >> 7
		seed ^= seed << 17
		return int(seed>>33) % below
	}
}

// some are many polynomials of up to that many terms, of the variables 1, 4, 9 and 16 or some of these, with small exponents; some numbers are long.
func some(count, terms int) []api.Poly {
	next := source()
	list := make([]api.Poly, count)
	for i := range list {
		var l []api.Term
		few, exps := 1+next(4), 1+next(4)
		for range next(terms + 1) {
			t := term(int64(next(9) - 4))
			if next(8) == 0 {
				t.C = long(1 + next(3))
				t.C.Neg = next(2) == 0
			}
			for v := 1; v <= few; v++ {
				if exp := next(exps + 1); exp > 0 {
					t.M = append(t.M, api.Power{Var: v * v, Exp: exp})
				}
			}
			l = append(l, t)
		}
		list[i] = sum(l...)
	}
	return list
}

// singles are all that may be in these tests.
func singles() []api.Poly { return slices.Concat(edges(), some(300, 12), some(20, 80)) }

// wrong are polynomials that may not be.
func wrong() []api.Poly {
	x := term(1, 1, 1)
	list := []api.Poly{
		row(term(0)), row(term(0, 1, 1)), row(api.Term{C: api.Int{Neg: true}}), row(api.Term{C: api.Int{Mag: []uint32{5, 0}}}), row(api.Term{C: api.Int{Mag: []uint32{5, 0}}, M: of(2, 2)}),
		row(term(1), term(1)), row(x, x), row(term(1), x), row(x, term(1, 2, 1)), row(x, term(1, 1, 2)), row(term(1, 1, 9), term(1, 2, 1)), row(term(1, 2, 2), x, term(0)),
		row(term(1, 1, most+1)), row(term(1, vars+1, 1)), row(term(1, 0, 1)), row(term(1, -1, 1)), row(term(1, 1, 0)), row(term(1, 1, -1)), row(term(1, 2, 1, 1, 1)), row(term(1, 1, 1, 1, 1)),
		row(term(1, math.MaxInt, math.MaxInt)), row(term(1, math.MinInt, math.MinInt)), row(term(1, 2, 2), x, term(1, 1, 0)), row(term(1, 2, 2), term(1, 1, most+1), term(1)), make(api.Poly, 1000),
	}
	good := sum(term(1, 4, 1), term(2, 3, 2), term(3, 2, 3), term(4, 1, 4), term(5))
	for at := range good { // one that is wrong at any place
		for _, bad := range []api.Term{{M: good[at].M}, {C: api.Int{Mag: []uint32{1, 0}}, M: good[at].M}, {C: whole.Of(1), M: of(3, 1, 2, 1)}} {
			p := slices.Clone(good)
			p[at] = bad
			list = append(list, p)
		}
	}
	return list
}

// variables are numbers that are variables, and others.
func variables() []int {
	return []int{math.MinInt, -1 << 32, -2, -1, 0, 1, 2, 3, 4, 7, 9, 16, 100, vars - 1, vars, vars + 1, 1<<32 + 1, math.MaxInt}
}

func isVariable(v int) bool { return v >= 1 && v <= 200 }

// exponent tells that of v in a monomial, and the other powers.
func exponent(m api.Mono, v int) (int, api.Mono) {
	at := slices.IndexFunc(m, func(p api.Power) bool { return p.Var == v })
	if at < 0 {
		return 0, m
	}
	return m[at].Exp, slices.Concat(m[:at], m[at+1:])
}

// degreeOf tells the tests' own way the degree of one that may be.
func degreeOf(p api.Poly, v int) int {
	d := 0
	for _, t := range p {
		e, _ := exponent(t.M, v)
		d = max(d, e)
	}
	return d
}

// classOf tells the tests' own way the class of one that may be.
func classOf(p api.Poly) int {
	for v := vars; v > 0; v-- {
		if degreeOf(p, v) > 0 {
			return v
		}
	}
	return 0
}

// coefficientOf tells the tests' own way a coefficient of one that may be, of a variable.
func coefficientOf(p api.Poly, v, e int) api.Poly {
	var l []api.Term
	for _, t := range p {
		if exp, others := exponent(t.M, v); exp == e {
			l = append(l, api.Term{C: t.C, M: others})
		}
	}
	return sum(l...)
}

// power tells p times v^e; v is a variable, unless e is 0.
func power(t *testing.T, p api.Poly, v, e int) api.Poly {
	t.Helper()
	var m api.Mono
	if e > 0 {
		m = of(v, e)
	}
	q, f := poly.Shift(p, whole.Of(1), m)
	return does(t, q, f)
}

func TestExamples(t *testing.T) {
	p := row(term(1, 1, 1, 2, 2), term(3, 2, 2), term(5, 1, 1))
	if c := view.Class(p); c != 2 {
		t.Error("Class:", c)
	}
	told(t, "Initial", view.Initial(p), row(term(1, 1, 1), term(3)))
	told(t, "Tail", view.Tail(p), row(term(5, 1, 1)))
	told(t, "Derive", view.Derive(p, 2), row(term(2, 1, 1, 2, 1), term(6, 2, 1)))
	if c := view.Class(row(term(7))); c != 0 {
		t.Error("Class of a number:", c)
	}
	told(t, "Initial", view.Initial(row(term(7))), row(term(7)))
	told(t, "Tail", view.Tail(row(term(7))), nil)
	told(t, "Derive", view.Derive(row(term(7)), 2), nil)
}

// P9.1
func TestClassAndDegree(t *testing.T) {
	for _, p := range singles() {
		if c := view.Class(p); c != classOf(p) {
			t.Errorf("Class of %s: %d", text(p), c)
		}
		for _, v := range variables() {
			if d := view.Degree(p, v); d != degreeOf(p, v) {
				t.Errorf("Degree of %s in %d: %d", text(p), v, d)
			}
		}
	}
	for v := 1; v <= vars; v++ {
		for _, e := range []int{1, 2, most} {
			p := sum(term(-2, v, e), term(1))
			if view.Class(p) != v || view.Degree(p, v) != e || view.Degree(p, v-1) != 0 || view.Degree(p, v+1) != 0 {
				t.Errorf("Class and Degree of %s: %d, %d", text(p), view.Class(p), view.Degree(p, v))
			}
		}
	}
	deep := sum(term(1, 3, 1), term(1, 2, 4), term(1, 1, 9, 2, 2)) // the greatest exponent of 1 is in the last but one, of 2 in the middle
	if view.Class(deep) != 3 || view.Degree(deep, 3) != 1 || view.Degree(deep, 2) != 4 || view.Degree(deep, 1) != 9 {
		t.Errorf("Class and Degree of %s", text(deep))
	}
}

// P9.1: an initial has a lower class than its polynomial, and makes it, with the tail.
func TestInitialAndTail(t *testing.T) {
	for _, p := range singles() {
		initial, tail, c := view.Initial(p), view.Tail(p), classOf(p)
		d := degreeOf(p, c)
		if c == 0 {
			told(t, "Initial of "+text(p), initial, p)
			told(t, "Tail of "+text(p), tail, nil)
			continue
		}
		told(t, "Initial of "+text(p), initial, coefficientOf(p, c, d))
		rest, e := poly.Sub(p, power(t, initial, c, d))
		told(t, "Tail of "+text(p), tail, does(t, rest, e))
		if len(initial) == 0 || classOf(initial) >= c || classOf(tail) > c || degreeOf(tail, c) >= d {
			t.Errorf("of %s the initial is %s, the tail %s", text(p), text(initial), text(tail))
		}
	}
	p := sum(term(2, 2, 1, 3, 2), term(-1, 1, 4, 3, 2), term(9, 3, 2), term(5, 2, 7, 3, 1), term(6, 2, 8), term(4)) // a tail of the same class, and with greater powers
	told(t, "Initial", view.Initial(p), row(term(2, 2, 1), term(-1, 1, 4), term(9)))
	told(t, "Tail", view.Tail(p), row(term(5, 2, 7, 3, 1), term(6, 2, 8), term(4)))
}

// P9.1: also of exponents that are not there, and below 0; 0 of what is no variable.
func TestCoefficient(t *testing.T) {
	for _, p := range singles() {
		for _, v := range variables() {
			for _, e := range []int{math.MinInt, -1 << 32, -2, -1, 0, 1, 2, 3, 4, 5, 6, 7, 9, 99, 100, most - 1, most, most + 1, 1 << 32, 1<<32 + 1, math.MaxInt} {
				var want api.Poly
				if isVariable(v) && e >= 0 {
					want = coefficientOf(p, v, e)
				}
				told(t, "Coefficient of "+text(p)+" in "+strconv.Itoa(v)+" to "+strconv.Itoa(e), view.Coefficient(p, v, e), want)
			}
		}
	}
	p := sum(term(1, 1, 1, 2, 2), term(3, 2, 2), term(5, 1, 1), term(-2, 1, 1, 3, 4), term(8))
	told(t, "in the middle one", view.Coefficient(p, 2, 2), row(term(1, 1, 1), term(3)))
	told(t, "in the least one", view.Coefficient(p, 1, 1), row(term(-2, 3, 4), term(1, 2, 2), term(5)))
	told(t, "without the least one", view.Coefficient(p, 1, 0), row(term(3, 2, 2), term(8)))
	told(t, "in one that it does not have", view.Coefficient(p, 5, 0), p)
	told(t, "in one that it does not have", view.Coefficient(p, 5, 1), nil)
	told(t, "in no variable", view.Coefficient(p, 0, 0), nil)
	told(t, "in no variable", view.Coefficient(p, vars+1, 0), nil)
}

// P9.1: those of v^0 up to the degree; none of 0, or in what is no variable.
func TestCoefficients(t *testing.T) {
	for _, p := range singles() {
		for _, v := range variables() {
			l, want := view.Coefficients(p, v), 0
			if isVariable(v) && len(p) > 0 {
				want = degreeOf(p, v) + 1
			}
			if len(l) != want {
				t.Errorf("Coefficients of %s in %d: %s, want %d", text(p), v, texts(l), want)
				continue
			}
			few := []int{0, 1, 2, 3, 4, 5, 9, 98, want/2 - 1, want - 2, want - 1} // of long lists not all
			for e, c := range l {
				if len(c) > 0 || want < 20 || slices.Contains(few, e) {
					told(t, "Coefficients of "+text(p)+" in "+strconv.Itoa(v)+", at "+strconv.Itoa(e), c, coefficientOf(p, v, e))
				}
			}
		}
	}
}

// P9.1: what may not be is as 0.
func TestWrongAsZero(t *testing.T) {
	for _, p := range wrong() {
		if c := view.Class(p); c != 0 {
			t.Errorf("Class of %s: %d", text(p), c)
		}
		told(t, "Initial of "+text(p), view.Initial(p), nil)
		told(t, "Tail of "+text(p), view.Tail(p), nil)
		for _, v := range variables() {
			if d := view.Degree(p, v); d != 0 {
				t.Errorf("Degree of %s in %d: %d", text(p), v, d)
			}
			for _, e := range []int{-1, 0, 1, 2, most, most + 1} {
				told(t, "Coefficient of "+text(p), view.Coefficient(p, v, e), nil)
			}
			if l := view.Coefficients(p, v); len(l) != 0 {
				t.Errorf("Coefficients of %s in %d: %s", text(p), v, texts(l))
			}
			told(t, "Derive of "+text(p), view.Derive(p, v), nil)
		}
	}
}

// What follows: coefficients, built again, are the polynomial.
func TestBuiltAgain(t *testing.T) {
	for _, p := range singles() {
		for _, v := range variables() {
			q, e := view.Build(view.Coefficients(p, v), v)
			if !isVariable(v) {
				nothing(t, "Build", q, e, api.ErrArg)
				continue
			}
			told(t, "what is built again", does(t, q, e), p)
		}
	}
}

// P9.2: of any polynomials, also such that have the variable themselves.
func TestBuild(t *testing.T) {
	list := some(200, 6)
	for at := range len(list) - 6 {
		for _, v := range []int{1, 2, 4, 9, 16, vars} {
			l := list[at : at+at%7]
			var want api.Poly
			for place, p := range l {
				q, e := poly.Add(want, power(t, p, v, place))
				want = does(t, q, e)
			}
			got, e := view.Build(l, v)
			told(t, "Build of "+texts(l), does(t, got, e), want)
		}
	}
	x, y := row(term(1, 1, 1)), row(term(1, 2, 1))
	for _, c := range []struct {
		l    []api.Poly
		v    int
		want api.Poly
	}{
		{nil, 1, nil}, {[]api.Poly{}, vars, nil}, {[]api.Poly{nil}, 1, nil}, {make([]api.Poly, most+1), vars, nil}, {[]api.Poly{x}, 2, x}, {[]api.Poly{nil, nil, x, nil}, 2, row(term(1, 1, 1, 2, 2))},
		{[]api.Poly{x, row(term(1))}, 1, row(term(2, 1, 1))}, {[]api.Poly{x, row(term(-1))}, 1, nil}, {[]api.Poly{y, x}, 2, row(term(1, 1, 1, 2, 1), term(1, 2, 1))}, {[]api.Poly{y, x}, 1, row(term(1, 2, 1), term(1, 1, 2))},
	} {
		got, e := view.Build(c.l, c.v)
		told(t, "Build of "+texts(c.l), does(t, got, e), c.want)
	}
}

// P9.2: MaxExp and 1 of them are not too many, one more is, whatever they are.
func TestBuildLength(t *testing.T) {
	full := make([]api.Poly, most+1)
	for place := range full {
		full[place] = row(term(int64(place+1), 3, 1))
	}
	for _, v := range []int{1, 2, 4, vars} {
		p, e := view.Build(full, v)
		if e != api.OK || len(p) != most+1 || !poly.May(p) {
			t.Fatalf("Build of MaxExp and 1: error %d, %s", e, text(p))
		}
		told(t, "its last coefficient", view.Coefficient(p, v, most), full[most])
		told(t, "its first coefficient", view.Coefficient(p, v, 0), full[0])
		if l := view.Coefficients(p, v); !slices.EqualFunc(l, full, poly.Same) {
			t.Errorf("Coefficients of what was built: %s", texts(l))
		}
	}
	high := make([]api.Poly, most+1) // ErrExp, if that were asked first
	high[1] = row(term(1, 1, most))
	for _, more := range []int{1, 2, most} {
		for _, last := range []api.Poly{nil, row(term(1))} {
			for _, l := range [][]api.Poly{full, make([]api.Poly, most+1), high} {
				l = slices.Concat(l, make([]api.Poly, more-1), []api.Poly{last})
				p, e := view.Build(l, 1)
				nothing(t, "Build of too many", p, e, api.ErrArg)
			}
		}
	}
}

// P9.2: one that may not be is ErrArg at any place, also where an exponent is too great.
func TestBuildWrong(t *testing.T) {
	high := row(term(1, 3, most))
	for _, v := range variables() {
		if isVariable(v) {
			continue
		}
		for _, l := range [][]api.Poly{nil, {nil}, {row(term(1))}, {high, high}, {wrong()[0]}} {
			p, e := view.Build(l, v)
			nothing(t, "Build in "+strconv.Itoa(v), p, e, api.ErrArg)
		}
	}
	for _, bad := range wrong() {
		for _, l := range [][]api.Poly{{bad}, {bad, nil}, {nil, bad}, {nil, high, bad}, {high, high, nil, bad, high}, {bad, high}} {
			for _, v := range []int{1, 3, vars} {
				p, e := view.Build(l, v)
				nothing(t, "Build of "+texts(l), p, e, api.ErrArg)
			}
		}
	}
}

// P9.2: an exponent of MaxExp is not too great, one more is, in a product, also if it would fall away.
func TestBuildExponents(t *testing.T) {
	for v := 1; v <= vars; v++ {
		for _, place := range []int{0, 1, 2, 77} {
			l := make([]api.Poly, place+1)
			l[place] = sum(term(3, v, most-place), term(1, v, 1), term(2))
			p, e := view.Build(l, v)
			told(t, "Build of "+texts(l), does(t, p, e), power(t, l[place], v, place))
			if place == 0 {
				continue
			}
			for _, more := range []api.Poly{row(term(3, v, most-place+1)), sum(term(1, v, most-place+1), term(1)), row(term(-1, v, most))} {
				l[place] = more
				p, e = view.Build(l, v)
				nothing(t, "Build of "+texts(l), p, e, api.ErrExp)
				p, e = view.Build(append(slices.Clone(l), row(term(1))), v)
				nothing(t, "Build of "+texts(l), p, e, api.ErrExp)
			}
			p, e = view.Build(l, v%vars+1) // in another variable it is not too great
			told(t, "Build of "+texts(l), does(t, p, e), power(t, l[place], v%vars+1, place))
		}
	}
	p, e := view.Build([]api.Poly{row(term(1)), row(term(2)), row(term(3, 2, most))}, 2) // nothing of what comes ahead is told
	nothing(t, "Build", p, e, api.ErrExp)
	gone := []api.Poly{nil, row(term(1, 2, most)), row(term(-1, 2, most-1))}
	p, e = view.Build(gone, 2)
	nothing(t, "Build of what would fall away", p, e, api.ErrExp)
	lower := sum(term(1, 3, 1), term(1, 2, most), term(1)) // too great in a term that is not the lead
	p, e = view.Build([]api.Poly{nil, lower}, 2)
	nothing(t, "Build", p, e, api.ErrExp)
}

// P9.3
func TestDerive(t *testing.T) {
	for _, p := range singles() {
		for _, v := range variables() {
			var l []api.Term
			for _, one := range p {
				e, others := exponent(one.M, v)
				if e > 1 {
					others = append(slices.Clone(others), api.Power{Var: v, Exp: e - 1})
					slices.SortFunc(others, func(a, b api.Power) int { return a.Var - b.Var })
				}
				if e > 0 {
					l = append(l, api.Term{C: whole.Mul(one.C, whole.Of(int64(e))), M: others})
				}
			}
			told(t, "Derive of "+text(p)+" in "+strconv.Itoa(v), view.Derive(p, v), sum(l...))
		}
	}
	for v := 1; v <= vars; v++ {
		told(t, "of v^MaxExp", view.Derive(row(term(-3, v, most)), v), row(term(-3*most, v, most-1)))
		told(t, "of v^2", view.Derive(row(term(1, v, 2)), v), row(term(2, v, 1)))
		told(t, "of v", view.Derive(sum(term(1<<40, v, 1), term(9)), v), row(term(1<<40)))
		told(t, "in another one", view.Derive(row(term(1, v, 2)), v%vars+1), nil)
	}
	p := sum(term(1, 1, 3, 2, 1), term(2, 1, 1, 2, 4), term(-1, 1, 2), term(8, 2, 5)) // also in one that is not the main one
	told(t, "in the lesser one", view.Derive(p, 1), row(term(2, 2, 4), term(3, 1, 2, 2, 1), term(-2, 1, 1)))
	told(t, "in the greater one", view.Derive(p, 2), row(term(40, 2, 4), term(8, 1, 1, 2, 3), term(1, 1, 3)))
}

// What follows: the derivative of a product is that of each factor times the other one, summed up; that of a sum is the sum of those.
func TestProductRule(t *testing.T) {
	two := func(f func(p, q api.Poly) (api.Poly, api.Errno), p, q api.Poly) api.Poly {
		t.Helper()
		r, e := f(p, q)
		return does(t, r, e)
	}
	list := some(300, 8)
	for i := range len(list) - 1 {
		p, q := list[i], list[i+1]
		for _, v := range []int{1, 4, 9, 16} {
			dp, dq := view.Derive(p, v), view.Derive(q, v)
			told(t, "of a sum", view.Derive(two(poly.Add, p, q), v), two(poly.Add, dp, dq))
			told(t, "of a product", view.Derive(two(poly.Times, p, q), v), two(poly.Add, two(poly.Times, dp, q), two(poly.Times, p, dq)))
		}
	}
}

// deep tells the same terms in memory of their own, with marks behind all lists.
func deep(p api.Poly) api.Poly {
	mark := api.Term{C: api.Int{Mag: []uint32{77}}, M: of(7, 7)}
	q := make(api.Poly, 0, len(p)+1)
	for _, t := range p {
		t.C.Mag = append(slices.Clone(t.C.Mag), 77)[:len(t.C.Mag)]
		t.M = append(slices.Clone(t.M), mark.M[0])[:len(t.M)]
		q = append(q, t)
	}
	return append(q, mark)[:len(p)]
}

// stays tells whether a deep one is still as it was made of p, also behind all lists.
func stays(q, p api.Poly) bool {
	fresh := deep(p)
	if !poly.Same(q[:len(q)+1], fresh[:len(p)+1]) {
		return false
	}
	for i, t := range q {
		n, k := len(t.C.Mag)+1, len(t.M)+1
		if !slices.Equal(t.C.Mag[:n], fresh[i].C.Mag[:n]) || !slices.Equal(t.M[:k], fresh[i].M[:k]) {
			return false
		}
	}
	return true
}

// spoil fills all lists of an answer, also behind their lengths, each with marks of its own, and tells whether no list has another one's.
func spoil(l []api.Poly) bool {
	l = l[:cap(l)]
	var terms []*api.Term
	for _, p := range l {
		p = p[:cap(p)]
		for i := range p {
			terms = append(terms, &p[i])
		}
	}
	for i, t := range terms {
		t.C.Mag, t.M = t.C.Mag[:cap(t.C.Mag)], t.M[:cap(t.M)]
		for j := range t.C.Mag {
			t.C.Mag[j] = uint32(i)
		}
		for j := range t.M {
			t.M[j] = api.Power{Var: -i, Exp: -i}
		}
	}
	for i, t := range terms {
		for _, limb := range t.C.Mag {
			if limb != uint32(i) {
				return false
			}
		}
		for _, w := range t.M {
			if w.Var != -i {
				return false
			}
		}
		t.C.Neg = !t.C.Neg
	}
	for i, t := range terms { // a term that two lists have is there twice
		*t = api.Term{M: of(i, i)}
	}
	for i, t := range terms {
		if t.M[0].Var != i {
			return false
		}
	}
	clear(l)
	return true
}

// calls are all functions that tell polynomials; the last one asks the rest.
func calls() []func(l []api.Poly, v int) []api.Poly {
	return []func(l []api.Poly, v int) []api.Poly{
		func(l []api.Poly, v int) []api.Poly { return []api.Poly{view.Initial(l[0])} },
		func(l []api.Poly, v int) []api.Poly { return []api.Poly{view.Tail(l[0])} },
		func(l []api.Poly, v int) []api.Poly { return []api.Poly{view.Coefficient(l[0], v, 0)} },
		func(l []api.Poly, v int) []api.Poly { return []api.Poly{view.Coefficient(l[0], v, 1)} },
		func(l []api.Poly, v int) []api.Poly { return view.Coefficients(l[0], v) },
		func(l []api.Poly, v int) []api.Poly { p, _ := view.Build(l, v); return []api.Poly{p} },
		func(l []api.Poly, v int) []api.Poly { return []api.Poly{view.Derive(l[0], v)} },
		func(l []api.Poly, v int) []api.Poly {
			view.Class(l[0])
			view.Degree(l[0], v)
			return nil
		},
	}
}

// What is handed in stays, also behind all lengths; what is told is in memory of its own, and no two lists of it share any.
func TestMemory(t *testing.T) {
	list := slices.Concat(edges(), some(60, 12), wrong())
	for i, call := range calls() {
		for at, p := range list {
			others := []api.Poly{p, nil, list[(at*7+3)%len(list)], list[(at*5+1)%len(list)]}
			for _, v := range []int{0, 1, 2, 4, vars} {
				l := make([]api.Poly, 0, len(others)+1)
				for _, q := range others {
					l = append(l, deep(q))
				}
				mark := append(l, row(term(7)))
				if !spoil(call(l, v)) {
					t.Errorf("call %d of %s in %d: two lists share memory", i, texts(others), v)
				}
				for j, q := range others {
					if !stays(l[j], q) {
						t.Errorf("call %d of %s in %d changed one: %s", i, texts(others), v, texts(l))
					}
				}
				if !poly.Same(mark[len(l)], row(term(7))) {
					t.Errorf("call %d of %s in %d wrote behind the list", i, texts(others), v)
				}
			}
		}
	}
}

// One polynomial may stand at all places, and what is told once is told again, whatever was done to it: nothing is kept.
func TestNothingKept(t *testing.T) {
	for i, call := range calls() {
		for _, p := range singles()[:80] {
			for _, v := range []int{1, 2, 4} {
				l := []api.Poly{p, p, p}
				first := call(l, v)
				var want []api.Poly
				for _, q := range first {
					want = append(want, deep(q))
				}
				spoil(first)
				if again := call(l, v); !slices.EqualFunc(again, want, poly.Same) {
					t.Errorf("call %d of %s in %d: %s, then %s", i, text(p), v, texts(want), texts(again))
				}
			}
		}
	}
}

// Long ones: as many coefficients as there may be, in any variable.
func TestLong(t *testing.T) {
	var l []api.Term
	for e := range most + 1 {
		l = append(l, term(int64(e+1), 1, 1+e%7, 2, 1+(e*31)%most), term(int64(e-5), 1, 1+(e*17)%most, 3, 1+e%5))
	}
	p := sum(l...)
	for v := 1; v <= 3; v++ {
		parts := view.Coefficients(p, v)
		terms := 0
		for _, c := range parts {
			terms += len(c)
		}
		if len(parts) != degreeOf(p, v)+1 || terms != len(p) {
			t.Errorf("Coefficients in %d: %d with %d terms, want %d", v, len(parts), terms, len(p))
		}
		q, e := view.Build(parts, v)
		told(t, "what is built again", does(t, q, e), p)
	}
}

// read makes terms of bytes, near what may be and beyond it.
func read(s []byte) api.Poly {
	p := api.Poly{}
	for ; len(s) > 3; s = s[4:] {
		one := term(int64(int8(s[0])))
		if s[0] == 99 {
			one.C.Mag = append(one.C.Mag, 0)
		}
		for v, exp := range s[1:3] {
			if exp > 0 {
				one.M = append(one.M, api.Power{Var: v + 1, Exp: int(exp % 16)})
			}
		}
		if s[3] > 250 {
			one.M = append(one.M, api.Power{Var: int(s[3]) - 54, Exp: most - 10})
		}
		p = append(p, one)
	}
	return p[:min(len(p), 16)]
}

// Whatever a polynomial and a variable are: what is told makes the polynomial again.
func FuzzView(f *testing.F) {
	f.Add([]byte{}, 1, 0)
	f.Add([]byte{1, 1, 2, 0, 3, 0, 2, 0, 5, 1, 0, 0}, 2, 2)
	f.Add([]byte{1, 0, 0, 254, 3, 2, 2, 0}, 200, most-10)
	f.Add([]byte{99, 0, 0, 0}, 0, 0)
	f.Fuzz(func(t *testing.T, s []byte, v, e int) {
		p := read(s)
		if !poly.May(p) {
			if q, f := view.Build([]api.Poly{p}, v); f != api.ErrArg || len(q) != 0 {
				t.Errorf("Build: error %d, %s", f, text(q))
			}
			p = sum() // as 0
		}
		c := classOf(p)
		d := degreeOf(p, c)
		made, f := poly.Add(power(t, view.Initial(read(s)), c, d), view.Tail(read(s)))
		told(t, "Initial and Tail", does(t, made, f), p)
		q, f := view.Build(view.Coefficients(read(s), v), v)
		if !isVariable(v) {
			nothing(t, "Build", q, f, api.ErrArg)
			told(t, "Coefficient", view.Coefficient(read(s), v, e), nil)
			return
		}
		told(t, "what is built again", does(t, q, f), p)
		var want api.Poly
		if e >= 0 {
			want = coefficientOf(p, v, e)
		}
		told(t, "Coefficient", view.Coefficient(read(s), v, e), want)
		if view.Class(read(s)) != c || view.Degree(read(s), v) != degreeOf(p, v) {
			t.Errorf("Class and Degree of %s: %d, %d", text(p), view.Class(p), view.Degree(p, v))
		}
	})
}
