package pseudo_test

import (
	"math"
	"slices"
	"strconv"
	"testing"

	"porism/api"
	"porism/meter"
	"porism/poly"
	"porism/pseudo"
	"porism/view"
	"porism/whole"
)

const (
	vars = api.MaxVars
	most = api.MaxExp
)

// of is a monomial of variables and exponents by turns; it may be one that may not be.
func of(l ...int) api.Mono {
	m := api.Mono{}
	for i := 0; i+1 < len(l); i += 2 {
		m = append(m, api.Power{Var: l[i], Exp: l[i+1]})
	}
	return m
}

// term is a term of a number, and variables and exponents by turns.
func term(c int64, l ...int) api.Term {
	return api.Term{C: whole.Of(c), M: of(l...)}
}

// row is a polynomial of terms as they stand; it may be one that may not be.
func row(l ...api.Term) api.Poly { return l }

// sum is the polynomial of terms in whatever order.
func sum(l ...api.Term) api.Poly {
	p, _ := poly.Of(l)
	return p
}

// long is a number of so many limbs, and one more.
func long(limbs int) api.Int {
	x := api.Int{Mag: make([]uint32, limbs+1)}
	x.Mag[0], x.Mag[limbs] = 7, 1
	return x
}

// text tells a list of terms for a failure's line.
func text(p api.Poly) string {
	s := strconv.Itoa(len(p)) + " terms:"
	for _, t := range p[:min(len(p), 6)] {
		n, _ := whole.Small(t.C)
		s += " " + strconv.FormatInt(n, 10)
		for _, w := range t.M[:min(len(t.M), 6)] {
			s += " x" + strconv.Itoa(w.Var) + "^" + strconv.Itoa(w.Exp)
		}
		s += ","
	}
	return s
}

// answer is what a call tells; of Rest q is 0.
type answer struct {
	q, r api.Poly
	s    int
	e    api.Errno
}

func (a answer) text() string {
	return "error " + strconv.Itoa(int(a.e)) + ", count " + strconv.Itoa(a.s) + ", quotient " + text(a.q) + " rest " + text(a.r)
}

// same tells whether both are the same; the polynomials of the first one may be.
func (a answer) same(b answer) bool {
	return poly.May(a.q) && poly.May(a.r) && poly.Same(a.q, b.q) && poly.Same(a.r, b.r) && a.s == b.s && a.e == b.e
}

func divide(m *meter.Meter, f, g api.Poly, v int) answer {
	q, r, s, e := pseudo.Divide(m, f, g, v)
	return answer{q, r, s, e}
}

func rest(m *meter.Meter, f, g api.Poly, v int) answer {
	r, s, e := pseudo.Rest(m, f, g, v)
	return answer{nil, r, s, e}
}

// told fails unless got is want.
func told(t *testing.T, what string, got, want answer) {
	t.Helper()
	if !got.same(want) {
		t.Errorf("%s: %s; want %s", what, got.text(), want.text())
	}
}

// both fails unless Divide, by no meter, tells just this, and Rest that without the quotient.
func both(t *testing.T, f, g api.Poly, v int, want answer) {
	t.Helper()
	what := text(f) + " by " + text(g) + " in " + strconv.Itoa(v)
	told(t, "Divide "+what, divide(nil, f, g, v), want)
	want.q = nil
	told(t, "Rest of "+what, rest(nil, f, g, v), want)
}

// source tells numbers by a rule: the same ones at each run.
func source() func(below int) int {
	seed := uint64(0x9e3779b97f4a7c15)
	return func(below int) int {
		seed ^= seed << 13
		seed ^= seed >> 7
		seed ^= seed << 17
		return int(seed>>33) % below
	}
}

// some are many polynomials of up to that many terms, of the variables 1, 4 and 9 or some of these, with small exponents; some numbers are long.
func some(count, terms int) []api.Poly {
	next := source()
	list := make([]api.Poly, count)
	for i := range list {
		var l []api.Term
		few, exps := 1+next(3), 1+next(4)
		for range next(terms + 1) {
			t := term(int64(next(9) - 4))
			if next(8) == 0 {
				t.C = long(1 + next(3))
				t.C.Neg = next(2) == 0
			}
			for v := 1; v <= few; v++ {
				if exp := next(exps + 1); exp > 0 {
					t.M = append(t.M, api.Power{Var: v * v, Exp: exp})
				}
			}
			l = append(l, t)
		}
		list[i] = sum(l...)
	}
	return list
}

// edges are polynomials that may be: 0, numbers, single terms, and some with the least and the greatest variables, exponents and numbers.
func edges() []api.Poly {
	all := make([]api.Term, vars)
	for i := range all {
		all[i] = term(int64(i-100), i+1, 1+i%3)
	}
	return []api.Poly{
		nil, {}, row(term(1)), row(term(-1)), row(term(math.MinInt64)), row(api.Term{C: long(3)}),
		row(term(1, 1, 1)), row(term(-1, 1, 1)), row(term(5, 2, 1)), row(term(1, vars, 1)), row(term(-3, 1, most)), row(term(7, vars, most)), row(term(4, 1, most, vars, most)), row(term(2, 1, most-1, 7, 1)),
		sum(term(1, 1, 1), term(1)), sum(term(2, 2, 1), term(3)), sum(term(1, 2, 1), term(1, 1, 1)), sum(term(1, 2, 1), term(-1, 1, 2)), sum(term(1, 1, 2, 2, 1), term(-1, 1, 2)), sum(term(1, 1, most), term(-1)),
		sum(term(1, 1, 1, 2, 2), term(3, 2, 2), term(5, 1, 1)), sum(term(1, 1, 3, 2, 1), term(1, 1, 1, 2, 3), term(1, 1, 2, 2, 2)), sum(term(1, vars, 1), term(1, 1, most), term(5)), sum(term(1, vars, most), term(1, vars, most-1), term(2)),
		sum(term(1, 1, 5, 2, 1, 3, 2), term(1, 1, 7, 3, 2), term(1, 2, 9, 3, 1), term(1, 1, 9), term(1, 2, 4)), sum(term(1, 1, 1, 2, 1, 3, 1), term(1, 1, 1, 2, 1), term(1, 1, 1), term(1)),
		sum(api.Term{C: long(2), M: of(3, 2)}, api.Term{C: long(4), M: of(2, 1, 3, 2)}, api.Term{C: long(1), M: of(2, 6)}, term(-1<<32)), sum(term(3, 2, 100, 4, 1), term(3, 2, 99, 4, 1), term(-3, 2, 100)), sum(all...),
	}
}

// wrong are polynomials that may not be.
func wrong() []api.Poly {
	x := term(1, 1, 1)
	list := []api.Poly{
		row(term(0)), row(term(0, 1, 1)), row(api.Term{C: api.Int{Neg: true}}), row(api.Term{C: api.Int{Mag: []uint32{5, 0}}, M: of(1, 1)}),
		row(x, x), row(term(1), x), row(x, term(1, 2, 1)), row(x, term(1, 1, 2)), row(term(1, 1, 9), term(1, 2, 1)), row(term(1, 2, 2), x, term(0)),
		row(term(1, 1, most+1)), row(term(1, vars+1, 1)), row(term(1, 0, 1)), row(term(1, -1, 1)), row(term(1, 1, 0)), row(term(1, 1, -1)), row(term(1, 2, 1, 1, 1)), row(term(1, 1, 1, 1, 1)),
		row(term(1, math.MaxInt, math.MaxInt)), row(term(1, math.MinInt, math.MinInt)), row(term(1, 2, 2), x, term(1, 1, 0)), row(term(1, 2, 2), term(1, 1, most+1), term(1)), make(api.Poly, 1000),
	}
	good := sum(term(1, 4, 1), term(2, 1, 4), term(5))
	for at := range good { // one that is wrong at any place
		for _, bad := range []api.Term{{M: good[at].M}, {C: api.Int{Mag: []uint32{1, 0}}, M: good[at].M}, {C: whole.Of(1), M: of(3, 1, 2, 1)}} {
			p := slices.Clone(good)
			p[at] = bad
			list = append(list, p)
		}
	}
	return list
}

// plain is the chapter's division, by its words, and a meter that counts by the words of layer 11; the limits bound nothing, unless there is a meter.
type plain struct {
	hasMeter bool
	l        api.Limits
	fuel     int
	need     api.Need
}

func (w *plain) refuse(e api.Errno, n int) api.Errno {
	if w.hasMeter && w.need.Which == api.OK {
		w.need = api.Need{Which: e, N: n}
	}
	return e
}

func (w *plain) step() api.Errno {
	if w.hasMeter && w.fuel == w.l.Fuel {
		return w.refuse(api.ErrFuel, w.l.Fuel+1)
	}
	if w.hasMeter {
		w.fuel++
	}
	return api.OK
}

func (w *plain) keep(p api.Poly) api.Errno {
	if n := poly.Limbs(p); w.hasMeter && n > w.l.Limbs {
		return w.refuse(api.ErrLimbs, n)
	}
	if w.hasMeter && len(p) > w.l.Terms {
		return w.refuse(api.ErrTerms, len(p))
	}
	return api.OK
}

// divide goes step by step, with all products whole; f and g may be, g is not of degree 0 in v.
func (w *plain) divide(f, g api.Poly, v int, hasQuotient bool) answer {
	d := view.Degree(g, v)
	head := view.Coefficient(g, v, d)
	var q api.Poly
	r, s := f, 0
	for len(r) > 0 && view.Degree(r, v) >= d {
		if e := w.step(); e != api.OK {
			return answer{e: e}
		}
		var moved api.Mono
		if k := view.Degree(r, v) - d; k > 0 {
			moved = of(v, k)
		}
		times, e := poly.Shift(view.Coefficient(r, v, view.Degree(r, v)), whole.Of(1), moved)
		left, e1 := poly.Times(head, r)
		less, e2 := poly.Times(times, g)
		raised, e3 := poly.Times(head, q)
		if !hasQuotient {
			e3 = api.OK
		}
		if e != api.OK || e1 != api.OK || e2 != api.OK || e3 != api.OK {
			return answer{e: w.refuse(api.ErrExp, 0)}
		}
		r, _ = poly.Sub(left, less)
		if e := w.keep(r); e != api.OK {
			return answer{e: e}
		}
		if hasQuotient {
			q, _ = poly.Add(raised, times)
			if e := w.keep(q); e != api.OK {
				return answer{e: e}
			}
		}
		s++
	}
	return answer{q, r, s, api.OK}
}

// metered fails unless both calls, each by a meter of the limits, tell and count what the words do; it tells Divide's answer.
func metered(t *testing.T, l api.Limits, f, g api.Poly, v int) answer {
	t.Helper()
	var divided answer
	for _, hasQuotient := range []bool{true, false} {
		m, e := meter.New(l)
		if e != api.OK {
			t.Fatalf("New: error %d", e)
		}
		call, what := rest, "Rest of "
		if hasQuotient {
			call, what = divide, "Divide "
		}
		w := &plain{hasMeter: true, l: l}
		got, want := call(m, f, g, v), w.divide(f, g, v, hasQuotient)
		what += text(f) + " by " + text(g) + " in " + strconv.Itoa(v)
		told(t, what, got, want)
		if m.Fuel() != w.fuel || m.Need() != w.need || m.Pieces() != 0 || m.Limits() != l {
			t.Errorf("%s, limits %v: %d steps, want %d; needs %v, want %v; %d pieces", what, l, m.Fuel(), w.fuel, m.Need(), w.need, m.Pieces())
		}
		if hasQuotient {
			divided = got
		}
	}
	return divided
}

// P12.1, P12.2: the chapter's examples.
func TestExamples(t *testing.T) {
	x, y := term(1, 1, 1), term(1, 2, 1)
	both(t, row(term(1, 2, 2)), sum(term(1, 1, 1, 2, 1), term(1)), 2, answer{q: sum(term(1, 1, 1, 2, 1), term(-1)), r: row(term(1)), s: 2})
	both(t, sum(term(1, 2, 2), x), sum(y, term(-1, 1, 1)), 2, answer{q: sum(y, x), r: sum(term(1, 1, 2), x), s: 2})
}

// P12.1, P12.2: by hand, also where nothing is to be done, and in a variable that is not the main one.
func TestByHand(t *testing.T) {
	x, y := term(1, 1, 1), term(1, 2, 1)
	for _, c := range []struct {
		f, g api.Poly
		v    int
		want answer
	}{
		{nil, row(y), 2, answer{}},
		{api.Poly{}, sum(y, x), 2, answer{}},
		{row(term(7)), row(y), 2, answer{r: row(term(7))}},
		{row(x), row(y), 2, answer{r: row(x)}},
		{row(y), row(term(1, 2, 2)), 2, answer{r: row(y)}},
		{row(y), row(y), 2, answer{q: row(term(1)), s: 1}},
		{row(y), row(term(-3, 2, 1)), 2, answer{q: row(term(1)), s: 1}},
		{sum(term(2, 2, 1), term(1)), sum(term(-3, 2, 1), term(1)), 2, answer{q: row(term(2)), r: row(term(-5)), s: 1}},
		{row(term(2, 2, 1)), row(term(4, 2, 1)), 2, answer{q: row(term(2)), s: 1}}, // heads are not made shorter
		{sum(term(1, 2, 2), term(-1, 1, 2)), sum(y, x), 2, answer{q: sum(y, term(-1, 1, 1)), s: 2}},
		{sum(term(1, 2, 2), term(-1, 1, 2)), sum(y, x), 1, answer{q: sum(y, term(-1, 1, 1)), s: 2}},
		{sum(term(1, 1, 1, 2, 3), term(2)), row(y), 1, answer{e: api.ErrArg}},
		{sum(term(1, 2, 3), term(2)), row(x), 1, answer{r: sum(term(1, 2, 3), term(2))}},
		{sum(term(1, 1, 1, 2, 3), term(2)), row(x), 1, answer{q: row(term(1, 2, 3)), r: row(term(2)), s: 1}},
		{sum(term(1, 2, 5), x), sum(term(2, 2, 2), x), 2, answer{q: sum(term(2, 2, 3), term(-1, 1, 1, 2, 1)), r: sum(term(1, 1, 2, 2, 1), term(4, 1, 1)), s: 2}}, // a degree that is passed by takes no step
		{row(term(1, 2, 9)), row(term(5, 2, 4)), 2, answer{q: row(term(1, 2, 5)), s: 1}},
		{row(term(1, 3, 2)), sum(term(1, 2, 1, 3, 1), term(1, 1, 1)), 3, answer{q: sum(term(1, 2, 1, 3, 1), term(-1, 1, 1)), r: row(term(1, 1, 2)), s: 2}},
		{row(term(1, vars, 2)), sum(term(1, vars, 1), term(-1)), vars, answer{q: sum(term(1, vars, 1), term(1)), r: row(term(1)), s: 2}},
		{row(term(1, 1, most)), row(term(2, 1, most)), 1, answer{q: row(term(1)), s: 1}},
		{row(term(3, 1, most)), sum(term(1, 1, most-1), term(1)), 1, answer{q: row(term(3, 1, 1)), r: row(term(-3, 1, 1)), s: 1}},
	} {
		both(t, c.f, c.g, c.v, c.want)
	}
}

// identity fails unless what is told of f, g, v is so: the head to the power of the count, times f, is the quotient times g, and the rest; and that is of a lower degree. It tells whether the identity could be worked out within the exponents.
func identity(t *testing.T, f, g api.Poly, v int, a answer) bool {
	t.Helper()
	d := view.Degree(g, v)
	if len(a.r) > 0 && view.Degree(a.r, v) >= d {
		t.Errorf("the rest of %s by %s in %d: %s", text(f), text(g), v, text(a.r))
	}
	if a.s < 0 || a.s > max(0, view.Degree(f, v)-d+1) {
		t.Errorf("the count of %s by %s in %d: %d", text(f), text(g), v, a.s)
	}
	raised, e := poly.Pow(view.Coefficient(g, v, d), a.s)
	left, e1 := poly.Times(raised, f)
	product, e2 := poly.Times(a.q, g)
	right, e3 := poly.Add(product, a.r)
	if e != api.OK || e1 != api.OK || e2 != api.OK || e3 != api.OK {
		return false
	}
	if !poly.Same(left, right) {
		t.Errorf("no identity: %s by %s in %d: %s", text(f), text(g), v, a.text())
	}
	return true
}

// asTold fails unless all that is told of f, g and v is by the words: within some bounds, and, where these are enough, by no meter. It tells whether the identity was worked out.
func asTold(t *testing.T, f, g api.Poly, v int) bool {
	t.Helper()
	if view.Degree(g, v) == 0 {
		both(t, f, g, v, answer{e: api.ErrArg})
		return false
	}
	a := metered(t, api.Limits{Fuel: 12, Limbs: api.MostLimbs, Terms: 400}, f, g, v)
	if a.e != api.OK {
		return false
	}
	both(t, f, g, v, a)
	return identity(t, f, g, v, a)
}

// P12.1 to P12.3: of any that may be, in any variable.
func TestAsTold(t *testing.T) {
	worked := 0
	list := edges()
	for _, f := range list {
		for _, g := range list {
			for _, v := range []int{1, 2, 3, 4, 7, vars} {
				if asTold(t, f, g, v) {
					worked++
				}
			}
		}
	}
	list = some(700, 6)
	for i, f := range list {
		for _, g := range []api.Poly{list[(i+1)%len(list)], list[(i*7+3)%len(list)], list[(i*11+5)%len(list)]} {
			for _, v := range []int{1, 4, 9} {
				if asTold(t, f, g, v) {
					worked++
				}
			}
		}
	}
	if worked < 3000 {
		t.Errorf("only %d identities were worked out", worked)
	}
}

// P12.3: what is multiplied has the rest 0, and the rest of a sum of such and one of a lower degree is that one times the head's power.
func TestOfProducts(t *testing.T) {
	list := some(300, 5)
	for i, g := range list {
		h, low := list[(i*7+3)%len(list)], list[(i*3+1)%len(list)]
		for _, v := range []int{1, 4, 9} {
			d := view.Degree(g, v)
			if d == 0 {
				continue
			}
			f, _ := poly.Times(g, h)
			if r := rest(nil, f, g, v); len(r.r) != 0 || r.e != api.OK {
				t.Errorf("the rest of %s times %s: %s", text(g), text(h), r.text())
			}
			low = view.Coefficient(low, v, 0)
			f, _ = poly.Add(f, low)
			r := rest(nil, f, g, v)
			raised, _ := poly.Pow(view.Coefficient(g, v, d), r.s)
			want, _ := poly.Times(raised, low)
			if !poly.Same(r.r, want) || r.e != api.OK {
				t.Errorf("the rest of %s by %s: %s; want %s", text(f), text(g), r.text(), text(want))
			}
		}
	}
}

// P12.1, P12.2: one that may not be, no variable, a divisor without it: ErrArg, ahead of all that a meter refuses, and nothing is counted.
func TestWrong(t *testing.T) {
	x, y := row(term(1, 1, 1)), row(term(1, 2, 1))
	high := row(term(1, 1, most, 2, 5))
	refused := func(f, g api.Poly, v int) {
		t.Helper()
		both(t, f, g, v, answer{e: api.ErrArg})
		for _, fuel := range []int{0, 5} {
			m, _ := meter.New(api.Limits{Fuel: fuel})
			told(t, "Divide", divide(m, f, g, v), answer{e: api.ErrArg})
			told(t, "Rest", rest(m, f, g, v), answer{e: api.ErrArg})
			if m.Fuel() != 0 || m.Need() != (api.Need{}) {
				t.Errorf("%d steps, needs %v", m.Fuel(), m.Need())
			}
		}
	}
	for _, bad := range wrong() {
		for _, other := range []api.Poly{nil, row(term(1)), x, y, high, sum(term(1, 1, 1, 2, 1), term(1)), bad} {
			for _, v := range []int{0, 1, 2, 4, vars} {
				refused(bad, other, v)
				refused(other, bad, v)
			}
		}
	}
	for _, v := range []int{math.MinInt, -1 << 32, -1, 0, vars + 1, 1<<32 + 1, math.MaxInt} {
		for _, p := range edges() {
			refused(p, p, v)
			refused(p, y, v)
			refused(y, p, v)
		}
	}
	for _, f := range edges() {
		for v := 1; v <= vars; v += 33 {
			for _, g := range []api.Poly{nil, {}, row(term(1)), row(term(-5)), row(term(1, v+1, 1)), sum(term(2, v+1, most), term(7))} {
				refused(f, g, v)
			}
		}
	}
}

// Many steps: as many as there may be, and more than a power may have of layer 8.
func TestManySteps(t *testing.T) {
	less := sum(term(1, 3, 1), term(-1))
	told(t, "Rest", rest(nil, row(term(1, 3, most)), less, 3), answer{r: row(term(1)), s: most})
	told(t, "Rest", rest(nil, row(term(1, 3, most)), sum(term(1, 3, 1), term(1)), 3), answer{r: row(term(1)), s: most})
	told(t, "Rest", rest(nil, row(term(1, 3, most-1)), sum(term(1, 3, 1), term(1)), 3), answer{r: row(term(-1)), s: most - 1})
	var l []api.Term
	for k := range 500 {
		l = append(l, term(1, 3, k))
	}
	l[0] = term(1)
	both(t, row(term(1, 3, 500)), less, 3, answer{q: sum(l...), r: row(term(1)), s: 500})
	f, g := row(term(1, 3, 300)), sum(term(2, 3, 1), term(-1)) // (2 x)^300 by g: each power of 2 x below that, each times a power of 2, and 1
	a := divide(nil, f, g, 3)
	told(t, "Divide", a, (&plain{}).divide(f, g, 3, true))
	if len(a.q) != 300 || a.s != 300 || !poly.Same(a.r, row(term(1))) {
		t.Errorf("by 2 x - 1: %s", a.text())
	}
}

// read makes terms of bytes, near what may be and beyond it.
func read(s []byte) api.Poly {
	p := api.Poly{}
	for ; len(s) > 3; s = s[4:] {
		one := term(int64(int8(s[0])))
		if s[0] == 99 {
			one.C.Mag = append(one.C.Mag, 0)
		}
		for v, exp := range s[1:3] {
			if exp > 0 {
				one.M = append(one.M, api.Power{Var: v + 1, Exp: int(exp % 8)})
			}
		}
		if s[3] > 250 {
			one.M = append(one.M, api.Power{Var: int(s[3]) - 54, Exp: most - 10})
		}
		p = append(p, one)
	}
	return p[:min(len(p), 6)]
}

// Whatever two polynomials, a variable and limits are.
func FuzzPseudo(f *testing.F) {
	f.Add([]byte{1, 0, 2, 0}, []byte{1, 1, 1, 0, 1, 0, 0, 0}, 2, 9, 9, 9)
	f.Add([]byte{1, 0, 2, 0, 1, 1, 0, 0}, []byte{1, 0, 1, 0, 255, 1, 0, 0}, 2, 1, 1, 1)
	f.Add([]byte{1, 0, 0, 254}, []byte{1, 1, 0, 254, 3, 0, 0, 0}, 200, 5, 1, 0)
	f.Add([]byte{99, 0, 0, 0}, []byte{}, 0, 0, 0, 0)
	f.Fuzz(func(t *testing.T, a, b []byte, v, fuel, limbs, terms int) {
		p, q := read(a), read(b)
		if !poly.May(p) || view.Degree(q, v) == 0 {
			both(t, p, q, v, answer{e: api.ErrArg})
			return
		}
		asTold(t, p, q, v)
		metered(t, api.Limits{Fuel: fuel & 15, Limbs: limbs & 7, Terms: terms & 31}, p, q, v)
	})
}
