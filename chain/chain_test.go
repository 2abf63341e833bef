package chain_test

import (
	"math"
	"slices"
	"strconv"
	"strings"
	"testing"

	"porism/api"
	"porism/chain"
	"porism/meter"
	"porism/poly"
	"porism/rank"
	"porism/value"
	"porism/view"
	"porism/whole"
)

const (
	vars = api.MaxVars
	most = api.MaxExp
)

// read is the polynomial of a text, whose terms may come in any order.
func read(s string) api.Poly {
	var terms []api.Term
	for _, part := range strings.Split(strings.ReplaceAll(s, "-", "+-"), "+") {
		if part == "" { // ahead of a sign at the beginning
			continue
		}
		p, e := value.Parse(part)
		if e != api.OK {
			panic(s + ": error " + strconv.Itoa(int(e)))
		}
		terms = append(terms, p...)
	}
	return sum(terms...)
}

// reads is the polynomials of some texts, with blanks between them.
func reads(s string) []api.Poly {
	var list []api.Poly
	for _, word := range strings.Fields(s) {
		list = append(list, read(word))
	}
	return list
}

// text tells a polynomial for a failure's line.
func text(p api.Poly) string {
	if !poly.May(p) {
		return "one of " + strconv.Itoa(len(p)) + " terms that may not be"
	}
	s := value.Text(p)
	return s[:min(len(s), 200)]
}

func texts(l []api.Poly) string {
	s := strconv.Itoa(len(l)) + ":"
	for _, p := range l[:min(len(l), 9)] {
		s += " " + text(p)
	}
	return s
}

// term is a term of a number, and variables and exponents by turns.
func term(c int64, l ...int) api.Term {
	t := api.Term{C: whole.Of(c)}
	for i := 0; i+1 < len(l); i += 2 {
		t.M = append(t.M, api.Power{Var: l[i], Exp: l[i+1]})
	}
	return t
}

// row is a polynomial of terms as they stand; it may be one that may not be.
func row(l ...api.Term) api.Poly { return l }

// sum is the polynomial of terms in whatever order.
func sum(l ...api.Term) api.Poly {
	p, _ := poly.Of(l)
	return p
}

// wrong are polynomials that may not be; many of them would be 0, or of the class 2, if they were put right.
func wrong() []api.Poly {
	x, y := term(1, 1, 1), term(1, 2, 1)
	return []api.Poly{
		row(term(0)), row(term(0, 2, 1)), row(api.Term{C: api.Int{Neg: true}}), row(api.Term{C: api.Int{Mag: []uint32{0}}, M: y.M}), row(api.Term{C: api.Int{Mag: []uint32{5, 0}}, M: y.M}),
		row(y, y), row(x, y), row(term(1), y), row(y, term(1), x), row(y, x, term(0)), row(y, term(-1, 2, 1)),
		row(term(1, 2, most+1)), row(term(1, vars+1, 1)), row(term(1, 0, 1)), row(term(1, -1, 1)), row(term(1, 2, 0)), row(term(1, 2, -1)), row(term(1, 2, 1, 1, 1)), row(term(1, 2, 1, 2, 1)),
		row(term(1, math.MaxInt, math.MaxInt)), row(term(1, math.MinInt, math.MinInt)), row(term(1, 2, 2), y, term(1, 1, 0)), make(api.Poly, 1000),
	}
}

// source tells numbers by a rule: the same ones at each run.
func source() func(below int) int {
	seed := uint64(0x9e3779b97f4a7c15)
	return func(below int) int {
		seed ^= seed << 13
		seed ^= seed >> 7
		seed ^= seed << 17
		return int(seed>>33) % below
	}
}

// lot is a polynomial of up to so many terms, by lot, in the variables 1 to class, with small exponents; a number may be a long one.
func lot(next func(int) int, terms, class, exps int) api.Poly {
	var l []api.Term
	for range next(terms + 1) {
		t := term(int64(next(9) - 4))
		if next(9) == 0 {
			t.C = whole.Of(int64(next(1<<31)) << 20)
		}
		for v := 1; v <= class; v++ {
			if exp := next(exps + 1); exp > 0 {
				t.M = append(t.M, api.Power{Var: v, Exp: exp})
			}
		}
		l = append(l, t)
	}
	return sum(l...)
}

// task is what a rest is taken of, and the chain.
type task struct {
	f api.Poly
	l []api.Poly
}

func (w task) text() string { return text(w.f) + " by " + texts(w.l) }

// lots are tasks by lot; the chains leave some classes out.
func lots(count int) []task {
	next := source()
	list := make([]task, count)
	for i := range list {
		list[i].f = lot(next, 4, 4, 2)
		for class := 1; class <= 4; class++ {
			low := lot(next, 2, class-1, 1)
			head := sum(term(int64(next(3)*2-1), class, 1+next(2)))
			if initial := lot(next, 2, class-1, 1); next(2) == 0 && len(initial) > 0 {
				head, _ = poly.Times(head, initial)
			}
			g, _ := poly.Add(head, low)
			if next(4) > 0 {
				list[i].l = append(list[i].l, g)
			}
		}
	}
	return list
}

// plain is the chapter's rest by a chain, by its words, and a meter that counts by the words of layer 11; the limits bound nothing, unless there is a meter.
type plain struct {
	hasMeter bool
	l        api.Limits
	fuel     int
	need     api.Need
}

func (w *plain) refuse(e api.Errno, n int) api.Errno {
	if w.hasMeter && w.need.Which == api.OK {
		w.need = api.Need{Which: e, N: n}
	}
	return e
}

func (w *plain) step() api.Errno {
	if w.hasMeter && w.fuel == w.l.Fuel {
		return w.refuse(api.ErrFuel, w.l.Fuel+1)
	}
	if w.hasMeter {
		w.fuel++
	}
	return api.OK
}

func (w *plain) keep(p api.Poly) api.Errno {
	if n := poly.Limbs(p); w.hasMeter && n > w.l.Limbs {
		return w.refuse(api.ErrLimbs, n)
	}
	if w.hasMeter && len(p) > w.l.Terms {
		return w.refuse(api.ErrTerms, len(p))
	}
	return api.OK
}

// divide goes step by step, with all products whole, in the class of g.
func (w *plain) divide(f, g api.Poly, hasQuotient bool) (q, r api.Poly, s int, e api.Errno) {
	v := view.Class(g)
	d, head := view.Degree(g, v), view.Initial(g)
	r = f
	for len(r) > 0 && view.Degree(r, v) >= d {
		if e := w.step(); e != api.OK {
			return nil, nil, 0, e
		}
		degree := view.Degree(r, v)
		shift := sum(term(1, v, degree-d))
		if degree == d {
			shift = sum(term(1))
		}
		times, _ := poly.Times(view.Coefficient(r, v, degree), shift)
		left, e1 := poly.Times(head, r)
		less, e2 := poly.Times(times, g)
		raised, e3 := poly.Times(head, q)
		if e1 != api.OK || e2 != api.OK || hasQuotient && e3 != api.OK {
			return nil, nil, 0, w.refuse(api.ErrExp, 0)
		}
		r, _ = poly.Sub(left, less)
		if e := w.keep(r); e != api.OK {
			return nil, nil, 0, e
		}
		if hasQuotient {
			q, _ = poly.Add(raised, times)
			if e := w.keep(q); e != api.OK {
				return nil, nil, 0, e
			}
		}
		s++
	}
	return q, r, s, api.OK
}

// product tells that of so many of p, and q; it is kept when it is whole.
func (w *plain) product(p api.Poly, n int, q api.Poly) (api.Poly, api.Errno) {
	for range n {
		var e api.Errno
		if q, e = poly.Times(q, p); e != api.OK {
			return nil, w.refuse(e, 0)
		}
	}
	return q, w.keep(q)
}

// classes are those of l by all their powers, and whether l is a chain.
func classes(l []api.Poly) (list []int, isChain bool) {
	isChain = true
	last := 0
	for _, p := range l {
		class := 0
		for _, t := range p {
			for _, power := range t.M {
				class = max(class, power.Var)
			}
		}
		isChain = isChain && poly.May(p) && class > last
		last = class
		list = append(list, class)
	}
	return list, isChain
}

// rest is what is told of f and l: with cofactors that of Rest, without them that of Reduce.
func (w *plain) rest(f api.Poly, l []api.Poly, hasCofactors bool) (api.Division, api.Errno) {
	if _, isChain := classes(l); !isChain || !poly.May(f) {
		return api.Division{}, api.ErrArg
	}
	d := api.Division{Powers: make([]int, len(l)), Cofactors: make([]api.Poly, len(l)), Rest: f}
	for k := len(l) - 1; k >= 0; k-- {
		q, r, s, e := w.divide(d.Rest, l[k], hasCofactors)
		if e != api.OK {
			return api.Division{}, e
		}
		d.Cofactors[k], d.Rest, d.Powers[k] = q, r, s
		if s == 0 || !hasCofactors {
			continue
		}
		power, e := w.product(view.Initial(l[k]), s, sum(term(1)))
		for j := k + 1; j < len(l) && e == api.OK; j++ {
			d.Cofactors[j], e = w.product(power, 1, d.Cofactors[j])
		}
		if e != api.OK {
			return api.Division{}, e
		}
	}
	return d, api.OK
}

// answer is what a call tells; of Reduce all cofactors are 0.
type answer struct {
	d api.Division
	e api.Errno
}

func (a answer) text() string {
	s := "error " + strconv.Itoa(int(a.e)) + ", powers"
	for _, n := range a.d.Powers {
		s += " " + strconv.Itoa(n)
	}
	return s + ", cofactors " + texts(a.d.Cofactors) + ", rest " + text(a.d.Rest)
}

// same tells whether both are the same; the polynomials of the first one may be, and with an error there is nothing.
func (a answer) same(b answer) bool {
	all := append(slices.Clone(a.d.Cofactors), a.d.Rest)
	if slices.ContainsFunc(all, func(p api.Poly) bool { return !poly.May(p) }) || a.e != b.e {
		return false
	}
	if a.e != api.OK {
		return a.d.Powers == nil && a.d.Cofactors == nil && a.d.Rest == nil
	}
	return slices.Equal(a.d.Powers, b.d.Powers) && slices.EqualFunc(a.d.Cofactors, b.d.Cofactors, poly.Same) && poly.Same(a.d.Rest, b.d.Rest)
}

func rest(m *meter.Meter, w task) answer {
	d, e := chain.Rest(m, w.f, w.l)
	return answer{d, e}
}

func reduce(m *meter.Meter, w task) answer {
	r, powers, e := chain.Reduce(m, w.f, w.l)
	a := answer{api.Division{Powers: powers, Rest: r}, e}
	if e == api.OK {
		a.d.Cofactors = make([]api.Poly, len(w.l))
	}
	return a
}

// told fails unless got is want.
func told(t *testing.T, what string, got, want answer) {
	t.Helper()
	if !got.same(want) {
		t.Errorf("%s: %s; want %s", what, got.text(), want.text())
	}
}

// both fails unless Rest, by no meter, tells just this, and Reduce that without the cofactors.
func both(t *testing.T, w task, want answer) {
	t.Helper()
	told(t, "Rest of "+w.text(), rest(nil, w), want)
	want.d.Cofactors = make([]api.Poly, len(want.d.Cofactors))
	told(t, "Reduce of "+w.text(), reduce(nil, w), want)
}

// metered fails unless both calls, each by a meter of the limits, tell and count what the words do; it tells Rest's answer.
func metered(t *testing.T, l api.Limits, w task) answer {
	t.Helper()
	var first answer
	for _, hasCofactors := range []bool{true, false} {
		m, e := meter.New(l)
		if e != api.OK {
			t.Fatalf("New: error %d", e)
		}
		call, what := reduce, "Reduce of "
		if hasCofactors {
			call, what = rest, "Rest of "
		}
		words := &plain{hasMeter: true, l: l}
		got := call(m, w)
		d, e := words.rest(w.f, w.l, hasCofactors)
		told(t, what+w.text(), got, answer{d, e})
		if m.Fuel() != words.fuel || m.Need() != words.need || m.Pieces() != 0 || m.Limits() != l {
			t.Errorf("%s%s, limits %v: %d steps, want %d; needs %v, want %v; %d pieces", what, w.text(), l, m.Fuel(), words.fuel, m.Need(), words.need, m.Pieces())
		}
		if hasCofactors {
			first = got
		}
	}
	return first
}

// numbers are so many ones.
func numbers(l ...int) []int { return l }

// P16.1, P16.2: the chapter's examples.
func TestExamples(t *testing.T) {
	both(t, task{read("x2^2"), reads("x1^2-2 x2-x1")}, answer{d: api.Division{Powers: numbers(1, 2), Cofactors: reads("1 x2+x1"), Rest: read("2")}})
	both(t, task{read("x1*x2"), reads("x2-1")}, answer{d: api.Division{Powers: numbers(1), Cofactors: reads("x1"), Rest: read("x1")}})
}

// P16.1: by hand.
func TestMay(t *testing.T) {
	var all, powers []api.Poly
	for v := 1; v <= vars; v++ {
		all = append(all, row(term(1, v, 1)))
		powers = append(powers, sum(term(-3, v, most), term(1, v%vars/2+1, 1), term(5)))
	}
	for _, l := range [][]api.Poly{
		nil, {}, all, powers, all[150:], reads("x1"), reads("x200"), reads("-x1^10000"), reads("x1 x2"), reads("x1^10000 x2"), reads("x1 x1*x2"), reads("x2 x3+x1 x199^2*x200+7"), reads("x1^2-2 x2-x1"), reads("2*x5+2*x1 x9^4"),
	} {
		if !chain.May(l) {
			t.Errorf("%s: false", texts(l))
		}
	}
	for _, s := range []string{
		"0", "1", "-7", "0 x1", "5 x1", "x1 5", "x1 0", "x1 x2 3", "x1 0 x2", "x1 1 x2", "x1 x1", "x1 x1^2", "x1^2 x1", "x2+x1 x2-x1", "x2 x1", "x2 x1^9", "x1 x3 x2", "x1 x2 x2 x3", "x1 x3 x1*x3+x2 x4", "x200 x199", "x1 x2 x3 x1",
	} {
		if chain.May(reads(s)) {
			t.Errorf("%s: true", s)
		}
	}
	for _, bad := range wrong() {
		for at := range 4 {
			if l := slices.Insert(reads("x1 x3 x4"), at, bad); chain.May(l) {
				t.Errorf("%s, wrong at %d: true", texts(l), at)
			}
		}
		if chain.May([]api.Poly{bad}) {
			t.Errorf("%s: true", text(bad))
		}
	}
	for at := range vars {
		if chain.May(append(slices.Clone(all), all[at])) || chain.May(append([]api.Poly{all[at]}, all...)) {
			t.Errorf("the variable %d twice: true", at+1)
		}
	}
}

// P16.1: any few, by their powers.
func TestMayOfFew(t *testing.T) {
	few := append(reads("x1 x1+1 x1*x2 x2^2-x1 x3 x3+x2 7 0"), wrong()[0], wrong()[5])
	for _, a := range few {
		for _, b := range few {
			for _, c := range few {
				l := []api.Poly{a, b, c}
				for n := range 4 {
					if _, want := classes(l[:n]); chain.May(l[:n]) != want {
						t.Errorf("%s: %t", texts(l[:n]), !want)
					}
				}
			}
		}
	}
}

// P16.1, P16.2: by hand, also where nothing is to be done.
func TestByHand(t *testing.T) {
	for _, c := range []struct {
		f, l      string
		powers    []int
		cofactors string
		r         string
	}{
		{"0", "", nil, "", "0"}, {"7", "", nil, "", "7"}, {"x2^2", "", nil, "", "x2^2"}, {"x3^4*x5-x1", "", nil, "", "x3^4*x5-x1"},
		{"0", "x1", numbers(0), "0", "0"}, {"7", "x1", numbers(0), "0", "7"}, {"0", "x1 2*x2-3 x9^9", numbers(0, 0, 0), "0 0 0", "0"},
		{"x1", "x1^2 x2", numbers(0, 0), "0 0", "x1"}, {"x1", "x1 x2", numbers(1, 0), "1 0", "0"}, {"x2", "x1 x2", numbers(0, 1), "0 1", "0"}, {"x3", "x1 x2", numbers(0, 0), "0 0", "x3"},
		{"x2*x3", "x2-2", numbers(1), "x3", "2*x3"}, {"x200^2", "x200-1", numbers(2), "x200+1", "1"},
		// the initial of a lower one goes into the cofactors of all higher ones
		{"x2", "2*x1-1 x2-x1", numbers(1, 1), "1 2", "1"},
		{"x3", "2*x1-1 3*x2-x1 x3-x2", numbers(1, 1, 1), "1 2 6", "1"},
		{"x3", "2*x1-1 3*x2-x1 5*x3-x2", numbers(1, 1, 1), "1 2 6", "1"},
		{"x3^2", "2*x1-1 x2-x1 x3-x2", numbers(2, 2, 2), "2*x1+1 4*x2+4*x1 4*x3+4*x2", "1"},
		// where the count is 0, there is nothing to multiply
		{"x3+x1", "x1^2 5*x2^2 3*x3-1", numbers(0, 0, 1), "0 0 1", "3*x1+1"},
		{"x3+x1", "2*x1-1 5*x2^2 3*x3-1", numbers(1, 0, 1), "3 0 2", "5"},
		{"x2", "x1-1 2*x2-1 7*x3", numbers(0, 1, 0), "0 1 0", "1"},
		// initials that are no numbers
		{"x2^2", "x1*x2+1", numbers(2), "x1*x2-1", "1"},
		{"x3", "x1*x2-1 x3-x2", numbers(1, 1), "1 x1", "1"},
		{"x3", "x1*x2-1 x2*x3-x1", numbers(0, 1), "0 1", "x1"},
		{"x3", "x1^2-2 x1*x2-1 x2*x3-x1", numbers(0, 0, 1), "0 0 1", "x1"},
		{"x3", "x1^2-2 x1*x2-1 x2*x3-x1^2", numbers(1, 0, 1), "1 0 1", "2"},
		{"x3+x2", "x1*x2-1 x2*x3-x1", numbers(2, 1), "x1*x2+1 x1^2", "x1^3+1"},
		{"x3^2", "x1*x2-1 x3-x2", numbers(2, 2), "x1*x2+1 x1^2*x3+x1^2*x2", "1"},
		// a step may fall below a degree that is not met
		{"x2^3", "x2^2-2", numbers(1), "x2", "2*x2"}, {"x2^4", "3*x2^2-2", numbers(2), "3*x2^2+2", "4"},
		// what is in common is not taken out
		{"2*x1", "4*x1", numbers(1), "2", "0"}, {"x2", "2*x1-2 6*x2-6*x1", numbers(1, 1), "6 2", "12"},
		// a variable of the chain stays where it is of a lower degree
		{"x1*x2+x2", "x1^2-1 x2^2", numbers(0, 0), "0 0", "x1*x2+x2"},
	} {
		both(t, task{read(c.f), reads(c.l)}, answer{d: api.Division{Powers: c.powers, Cofactors: reads(c.cofactors), Rest: read(c.r)}})
	}
}

// holds fails unless what is told of a task is so: the identity, worked out product by product; the rest is reduced by each of the chain. It tells whether the identity could be worked out.
func holds(t *testing.T, w task, d api.Division) bool {
	t.Helper()
	if !rank.By(d.Rest, w.l) {
		t.Errorf("the rest of %s: %s is not reduced", w.text(), text(d.Rest))
	}
	left, right := w.f, d.Rest
	for k, g := range w.l {
		for range d.Powers[k] {
			var e api.Errno
			if left, e = poly.Times(left, view.Initial(g)); e != api.OK {
				return false
			}
		}
		product, e := poly.Times(d.Cofactors[k], g)
		if e != api.OK {
			return false
		}
		right, _ = poly.Add(right, product)
	}
	if !poly.Same(left, right) {
		t.Errorf("no identity: %s: %s", w.text(), answer{d: d}.text())
	}
	return true
}

// asTold fails unless all that is told of a task is by the words: within some bounds, and, where these are enough, by no meter. It tells whether they are.
func asTold(t *testing.T, w task) bool {
	t.Helper()
	a := metered(t, api.Limits{Fuel: 12, Limbs: 200, Terms: 300}, w)
	if a.e != api.OK {
		return false
	}
	both(t, w, a)
	return holds(t, w, a.d)
}

// P16.1, P16.2, and what follows: of any.
func TestAsTold(t *testing.T) {
	worked, moved := 0, 0
	for _, w := range lots(3000) {
		if !asTold(t, w) {
			continue
		}
		worked++
		d := rest(nil, w).d
		if !chain.Identity(w.f, w.l, d) {
			t.Errorf("Identity: %s: %s", w.text(), answer{d: d}.text())
		}
		if slices.ContainsFunc(d.Powers, func(n int) bool { return n > 1 }) {
			moved++
		}
	}
	if worked < 2000 || moved < 500 {
		t.Errorf("only %d were worked out, %d of them by some steps", worked, moved)
	}
}

// What follows: what is a product with one of the chain has the rest 0; with a reduced one added it has that one, times the initial's power.
func TestOfProducts(t *testing.T) {
	next := source()
	for _, w := range lots(300) {
		for _, g := range w.l {
			class := view.Class(g)
			low, alone := lot(next, 2, class-1, 2), []api.Poly{g}
			f, _ := poly.Times(g, lot(next, 3, 4, 1))
			if r, _, e := chain.Reduce(nil, f, alone); e != api.OK || len(r) != 0 {
				t.Errorf("%s by %s: error %d, rest %s", text(f), text(g), e, text(r))
			}
			f, _ = poly.Add(f, low)
			d, e := chain.Rest(nil, f, alone)
			if e != api.OK {
				t.Fatalf("%s by %s: error %d", text(f), text(g), e)
			}
			want, _ := poly.Pow(view.Initial(g), d.Powers[0])
			want, _ = poly.Times(want, low)
			if !poly.Same(d.Rest, want) {
				t.Errorf("%s by %s: rest %s, want %s", text(f), text(g), text(d.Rest), text(want))
			}
		}
	}
}

// P16.1, P16.2: one that may not be, no chain: ErrArg, ahead of all that a meter refuses, and nothing is counted.
func TestWrong(t *testing.T) {
	refused := func(w task) {
		t.Helper()
		both(t, w, answer{e: api.ErrArg})
		for _, l := range []api.Limits{{}, {Fuel: 5, Limbs: 5, Terms: 5}} {
			m, _ := meter.New(l)
			told(t, "Rest of "+w.text(), rest(m, w), answer{e: api.ErrArg})
			told(t, "Reduce of "+w.text(), reduce(m, w), answer{e: api.ErrArg})
			if m.Fuel() != 0 || m.Need() != (api.Need{}) {
				t.Errorf("%s: %d steps, needs %v", w.text(), m.Fuel(), m.Need())
			}
		}
	}
	some := reads("0 5 x1 x2^3 x1^10000*x2*x4^2 x9")
	for _, bad := range wrong() {
		for _, s := range []string{"", "x1", "x2", "x1*x2-1 x3", "x9"} {
			refused(task{bad, reads(s)})
		}
		for _, f := range append(some, bad) {
			refused(task{f, []api.Poly{bad}})
			for at := range 4 {
				refused(task{f, slices.Insert(reads("x1 x3 x4"), at, bad)})
			}
		}
	}
	for _, f := range some {
		for _, s := range []string{"0", "5", "x1 x1", "x2 x1", "x1 x2 x2+x1", "0 x1", "5 x1", "x1 5", "x1 0 x2", "x9 x8", "x2 x2", "x1^10000*x2 x1^10000*x2"} {
			refused(task{f, reads(s)})
		}
	}
}

// Long chains: each variable goes down to the next lower one, and the initials' products rise.
func TestLongChain(t *testing.T) {
	l := []api.Poly{read("2*x1-1")}
	for v := 2; v <= vars; v++ {
		l = append(l, sum(term(2, v, 1), term(-1, v-1, 1)))
	}
	d, e := chain.Rest(nil, row(term(1, vars, 1)), l)
	if e != api.OK || !poly.Same(d.Rest, read("1")) {
		t.Fatalf("error %d, rest %s", e, text(d.Rest))
	}
	power := whole.Of(1)
	for k := range vars {
		if d.Powers[k] != 1 || !poly.Same(d.Cofactors[k], poly.Number(power)) {
			t.Errorf("the %d-th: power %d, cofactor %s", k, d.Powers[k], text(d.Cofactors[k]))
		}
		power = whole.Mul(power, whole.Of(2))
	}
	if !chain.Identity(row(term(1, vars, 1)), l, d) {
		t.Error("Identity: false")
	}
}

// Counts beyond the powers of layer 8: the initial's power is made all the same, Identity alone has that bound.
func TestManySteps(t *testing.T) {
	for _, n := range []int{1, 2, 50, 99, 100, 101, 102, 199, 200, 201, 250, 300} {
		f := sum(term(1, 3, 1), term(1, 2, n), term(-1, 2, 1)) // by x3 - x2 the rest is x2^n
		for _, head := range []string{"2*x2", "-3*x2", "x1*x2", "x1^2*x2"} {
			w := task{f, reads(head + "-1 x3-x2")}
			want := read("1")
			for range n {
				want, _ = poly.Times(want, view.Initial(w.l[0]))
			}
			a := rest(nil, w)
			if a.e != api.OK || !slices.Equal(a.d.Powers, numbers(n, 1)) || !poly.Same(a.d.Cofactors[1], want) || !poly.Same(a.d.Rest, read("1")) || !holds(t, w, a.d) {
				t.Errorf("%s: %s", w.text(), a.text())
			}
			if chain.Identity(w.f, w.l, a.d) != (n <= 100) {
				t.Errorf("Identity: %s: %t", w.text(), n > 100)
			}
		}
	}
	told(t, "Reduce", reduce(nil, task{read("x2^10000"), reads("x2-1")}), answer{d: api.Division{Powers: numbers(most), Cofactors: reads("0"), Rest: read("1")}})
}

// poke makes terms of bytes, near what may be and beyond it.
func poke(s []byte) api.Poly {
	p := api.Poly{}
	for ; len(s) > 3; s = s[4:] {
		one := term(int64(int8(s[0])))
		for v, exp := range s[1:4] {
			if exp %= 16; exp == 15 {
				one.M = append(one.M, api.Power{Var: v + 1, Exp: most - int(s[0])})
			} else if exp > 0 {
				one.M = append(one.M, api.Power{Var: v + 1, Exp: int(exp)%4 + 1})
			}
		}
		p = append(p, one)
	}
	p = p[:min(len(p), 5)]
	if len(s) == 3 {
		return p
	}
	return sum(p...)
}

// Whatever a polynomial, a list and limits are.
func FuzzChain(f *testing.F) {
	f.Add([]byte{1, 0, 2, 0}, []byte{1, 1, 0, 0, 2, 0, 0, 0}, []byte{1, 0, 1, 0, 1, 1, 0, 0}, []byte{1, 0, 0, 1}, 9, 9, 9)
	f.Add([]byte{1, 0, 0, 2}, []byte{}, []byte{1, 1, 1, 0, 1, 0, 0, 0}, []byte{1, 0, 0, 1, 1, 0, 1, 0}, 3, 2, 4)
	f.Add([]byte{1, 15, 0, 2}, []byte{}, []byte{1, 15, 1, 0, 1, 0, 0, 0}, []byte{1, 0, 0, 1, 1, 0, 1, 0}, 3, 2, 4)
	f.Fuzz(func(t *testing.T, a, b, c, d []byte, fuel, limbs, terms int) {
		w := task{f: poke(a)}
		for _, s := range [][]byte{b, c, d} {
			if len(s) > 0 {
				w.l = append(w.l, poke(s))
			}
		}
		metered(t, api.Limits{Fuel: fuel & 15, Limbs: limbs & 7, Terms: terms & 31}, w)
		asTold(t, w)
	})
}
