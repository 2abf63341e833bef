package value_test

import (
	"math"
	"math/big"
	"slices"
	"strconv"
	"testing"

	"porism/api"
	"porism/poly"
	"porism/ratio"
	"porism/value"
	"porism/whole"
)

const (
	vars = api.MaxVars
	most = api.MaxExp
)

// asInt tells the canonical Int of one of the library's numbers.
func asInt(n *big.Int) api.Int {
	x := api.Int{Neg: n.Sign() < 0}
	bytes := n.Bytes()
	for at := len(bytes); at > 0; at -= 4 {
		limb := uint32(0)
		for _, b := range bytes[max(at-4, 0):at] {
			limb = limb<<8 | uint32(b)
		}
		x.Mag = append(x.Mag, limb)
	}
	return x
}

// number tells in the library's numbers what an Int stands for.
func number(x api.Int) *big.Int {
	bytes := make([]byte, 0, 4*len(x.Mag))
	for _, limb := range slices.Backward(x.Mag) {
		bytes = append(bytes, byte(limb>>24), byte(limb>>16), byte(limb>>8), byte(limb))
	}
	n := new(big.Int).SetBytes(bytes)
	if x.Neg {
		n.Neg(n)
	}
	return n
}

// broken tells in the library's numbers what a Rat stands for.
func broken(x api.Rat) *big.Rat {
	num, den := number(x.Num), number(x.Den)
	if den.Sign() == 0 {
		den.SetInt64(1)
	}
	return new(big.Rat).SetFrac(num, den)
}

// asRat tells the canonical Rat of one of the library's numbers.
func asRat(q *big.Rat) api.Rat {
	return api.Rat{Num: asInt(q.Num()), Den: asInt(q.Denom())}
}

// same tells whether both are the same Rat, limb by limb.
func same(x, y api.Rat) bool {
	return x.Num.Neg == y.Num.Neg && slices.Equal(x.Num.Mag, y.Num.Mag) &&
		x.Den.Neg == y.Den.Neg && slices.Equal(x.Den.Mag, y.Den.Mag)
}

// rat is the canonical number num / den.
func rat(num, den int64) api.Rat { return asRat(big.NewRat(num, den)) }

// of is a monomial of variables and exponents by turns; it may be one that may not be.
func of(l ...int) api.Mono {
	m := api.Mono{}
	for i := 0; i+1 < len(l); i += 2 {
		m = append(m, api.Power{Var: l[i], Exp: l[i+1]})
	}
	return m
}

// term is a term of a number, and variables and exponents by turns.
func term(c int64, l ...int) api.Term {
	return api.Term{C: asInt(big.NewInt(c)), M: of(l...)}
}

// row is a polynomial of terms as they stand; it may be one that may not be.
func row(l ...api.Term) api.Poly { return l }

// sum is the polynomial of terms in whatever order.
func sum(l ...api.Term) api.Poly {
	p, _ := poly.Of(l)
	return p
}

// long is a number of so many limbs, and one more.
func long(limbs int) api.Int {
	x := api.Int{Mag: make([]uint32, limbs+1)}
	x.Mag[0], x.Mag[limbs] = 7, 1
	return x
}

// short tells a list of terms for a failure's line.
func short(p api.Poly) string {
	s := strconv.Itoa(len(p)) + " terms:"
	for _, t := range p[:min(len(p), 6)] {
		n, _ := whole.Small(t.C)
		s += " " + strconv.FormatInt(n, 10)
		for _, w := range t.M[:min(len(t.M), 6)] {
			s += " x" + strconv.Itoa(w.Var) + "^" + strconv.Itoa(w.Exp)
		}
		s += ","
	}
	return s
}

// told fails unless got is want, term by term, may be, and there is no error.
func told(t *testing.T, what string, got api.Poly, e api.Errno, want api.Poly) {
	t.Helper()
	if e != api.OK || !poly.Same(got, want) || !poly.May(got) {
		t.Errorf("%s: error %d, %s want %s", what, e, short(got), short(want))
	}
}

// nothing fails unless the error is told alone.
func nothing(t *testing.T, what string, p api.Poly, got, want api.Errno) {
	t.Helper()
	if got != want || len(p) != 0 {
		t.Errorf("%s: error %d, want %d, with %s", what, got, want, short(p))
	}
}

// is fails unless At tells that number, canonical, and Sign its sign.
func is(t *testing.T, p api.Poly, point []api.Rat, want *big.Rat) {
	t.Helper()
	x, e := value.At(p, point)
	if e != api.OK || !same(x, asRat(want)) {
		t.Errorf("At of %s: error %d, %.60s, want %.60s", short(p), e, broken(x), want)
	}
	s, e := value.Sign(p, point)
	if e != api.OK || s != want.Sign() {
		t.Errorf("Sign of %s: error %d, %d, want %d", short(p), e, s, want.Sign())
	}
}

// isNone fails unless At and Sign tell the error alone.
func isNone(t *testing.T, p api.Poly, point []api.Rat, want api.Errno) {
	t.Helper()
	x, e := value.At(p, point)
	if e != want || !same(x, api.Rat{}) {
		t.Errorf("At of %s at %d numbers: error %d, want %d, with %v", short(p), len(point), e, want, x)
	}
	s, e := value.Sign(p, point)
	if e != want || s != 0 {
		t.Errorf("Sign of %s at %d numbers: error %d, want %d, with %d", short(p), len(point), e, want, s)
	}
}

// edges are polynomials that may be: 0, numbers, single terms, and some with the least and the greatest variables and numbers; exponents are up to 12.
func edges() []api.Poly {
	all := make([]api.Term, vars)
	for i := range all {
		all[i] = term(int64(i-100), i+1, 1+i%3)
	}
	return []api.Poly{
		nil, {}, row(term(1)), row(term(-1)), row(term(7)), row(term(-10)), row(term(math.MinInt64)), row(api.Term{C: long(3)}),
		row(term(1, 1, 1)), row(term(-1, 1, 1)), row(term(5, 2, 1)), row(term(1, vars, 1)), row(term(-3, 1, 12)), row(term(7, vars, 2)), row(term(4, 1, 3, vars, 5)), row(term(2, 1, 9, 7, 1)), row(term(-1, 1, 1, 2, 1, 3, 1)),
		sum(term(1, 1, 1), term(1)), sum(term(2, 2, 1), term(3)), sum(term(1, 2, 1), term(1, 1, 1)), sum(term(1, 2, 1), term(-1, 1, 2)), sum(term(1, 1, 2, 2, 1), term(-1, 1, 2)), sum(term(1, 1, 11), term(-1)),
		sum(term(1, 1, 1, 2, 2), term(3, 2, 2), term(5, 1, 1)), sum(term(1, 1, 3, 2, 1), term(1, 1, 1, 2, 3), term(1, 1, 2, 2, 2)), sum(term(1, vars, 1), term(1, 1, 10), term(5)), sum(term(1, vars, 12), term(1, vars, 11), term(2)),
		sum(term(1, 1, 5, 2, 1, 3, 2), term(1, 1, 7, 3, 2), term(1, 2, 9, 3, 1), term(1, 1, 9), term(1, 2, 4)), sum(term(1, 1, 1, 2, 1, 3, 1), term(1, 1, 1, 2, 1), term(1, 1, 1), term(1)),
		sum(api.Term{C: long(2), M: of(3, 2)}, api.Term{C: long(4), M: of(2, 1, 3, 2)}, api.Term{C: long(1), M: of(2, 6)}, term(-1<<32)), sum(term(3, 2, 10, 4, 1), term(3, 2, 9, 4, 1), term(-3, 2, 10)), sum(all...),
	}
}

// high are polynomials that may be, with the greatest exponents.
func high() []api.Poly {
	return []api.Poly{
		row(term(1, 1, most)), row(term(-3, 2, most)), row(term(7, vars, most)), row(term(4, 1, most, vars, most)), row(term(1, 1, most-1)), row(term(1, 3, most, 5, 1, 9, most-1)),
		sum(term(1, 1, most), term(-1)), sum(term(1, vars, 1), term(1, 1, most), term(5)), sum(term(1, vars, most), term(1, vars, most-1), term(2)), sum(term(1, 4, 5000), term(1, 2, most), term(1, 1, 17)),
	}
}

// source tells numbers by a rule: the same ones at each run.
func source() func(below int) int {
	seed := uint64(0x9e3779b97f4a7c15)
	return func(below int) int {
		seed ^= seed << 13
		seed ^= seed >> 7
		seed ^= seed << 17
		return int(seed>>33) % below
	}
}

// some are many polynomials of up to that many terms, of the variables 1, 4, 9 and 16 or some of these, with small exponents; some numbers are long.
func some(count, terms int) []api.Poly {
	next := source()
	list := make([]api.Poly, count)
	for i := range list {
		var l []api.Term
		few, exps := 1+next(4), 1+next(4)
		for range next(terms + 1) {
			t := term(int64(next(9) - 4))
			if next(8) == 0 {
				t.C = long(1 + next(3))
				t.C.Neg = next(2) == 0
			}
			for v := 1; v <= few; v++ {
				if exp := next(exps + 1); exp > 0 {
					t.M = append(t.M, api.Power{Var: v * v, Exp: exp})
				}
			}
			l = append(l, t)
		}
		list[i] = sum(l...)
	}
	return list
}

// wrong are polynomials that may not be.
func wrong() []api.Poly {
	x := term(1, 1, 1)
	list := []api.Poly{
		row(term(0)), row(term(0, 1, 1)), row(api.Term{C: api.Int{Neg: true}}), row(api.Term{C: api.Int{Mag: []uint32{5, 0}}}), row(api.Term{C: api.Int{Mag: []uint32{5, 0}}, M: of(2, 2)}),
		row(term(1), term(1)), row(x, x), row(term(1), x), row(x, term(1, 2, 1)), row(x, term(1, 1, 2)), row(term(1, 1, 9), term(1, 2, 1)), row(term(1, 2, 2), x, term(0)),
		row(term(1, 1, most+1)), row(term(1, vars+1, 1)), row(term(1, 0, 1)), row(term(1, -1, 1)), row(term(1, 1, 0)), row(term(1, 1, -1)), row(term(1, 2, 1, 1, 1)), row(term(1, 1, 1, 1, 1)),
		row(term(1, math.MaxInt, math.MaxInt)), row(term(1, math.MinInt, math.MinInt)), row(term(1, 2, 2), x, term(1, 1, 0)), row(term(1, 2, 2), term(1, 1, most+1), term(1)), make(api.Poly, 1000),
	}
	good := sum(term(1, 4, 1), term(2, 3, 2), term(3, 2, 3), term(4, 1, 4), term(5))
	for at := range good { // one that is wrong at any place
		for _, bad := range []api.Term{{M: good[at].M}, {C: api.Int{Mag: []uint32{1, 0}}, M: good[at].M}, {C: whole.Of(1), M: of(3, 1, 2, 1)}} {
			p := slices.Clone(good)
			p[at] = bad
			list = append(list, p)
		}
	}
	return list
}

// notVariables are numbers that are no variables.
func notVariables() []int {
	return []int{math.MinInt, -1 << 32, -200, -2, -1, 0, vars + 1, vars + 2, 1<<32 + 1, math.MaxInt}
}

// repeated is a point of one number.
func repeated(x api.Rat, n int) []api.Rat {
	return slices.Repeat([]api.Rat{x}, n)
}

// points are some of MaxVars canonical numbers: of one, of small ones with 0, of such with unlike denominators, and of long ones.
func points() [][]api.Rat {
	list := [][]api.Rat{repeated(rat(0, 1), vars), repeated(rat(1, 1), vars), repeated(rat(-1, 1), vars), repeated(rat(3, 2), vars), repeated(rat(-2, 3), vars)}
	next := source()
	for _, dens := range []int{1, 2, 6, 30} {
		var point []api.Rat
		for range vars {
			point = append(point, rat(int64(next(21)-10), int64(1+next(dens))))
		}
		list = append(list, point)
	}
	var far []api.Rat
	for v := range vars {
		far = append(far, asRat(new(big.Rat).SetFrac(number(long(1+v%3)), big.NewInt(int64(6*v-301)))))
	}
	return append(list, far)
}

// power tells x^n.
func power(x *big.Rat, n int) *big.Rat {
	e := big.NewInt(int64(n))
	return new(big.Rat).SetFrac(new(big.Int).Exp(x.Num(), e, nil), new(big.Int).Exp(x.Denom(), e, nil))
}

// worth tells the tests' own way, term by term, what one that may be is at a point.
func worth(p api.Poly, point []api.Rat) *big.Rat {
	all := new(big.Rat)
	for _, t := range p {
		x := new(big.Rat).SetInt(number(t.C))
		for _, w := range t.M {
			x.Mul(x, power(broken(point[w.Var-1]), w.Exp))
		}
		all.Add(all, x)
	}
	return all
}

// classOf tells the tests' own way the class of one that may be.
func classOf(p api.Poly) int {
	class := 0
	for _, t := range p {
		for _, w := range t.M {
			class = max(class, w.Var)
		}
	}
	return class
}

func TestExamples(t *testing.T) {
	p := row(term(1, 1, 1, 2, 2), term(-2, 1, 1), term(1))
	if s := value.Text(p); s != "x1*x2^2-2*x1+1" {
		t.Error("Text:", s)
	}
	if s := value.Text(nil); s != "0" {
		t.Error("Text of 0:", s)
	}
	point := []api.Rat{rat(1, 2), rat(3, 1)}
	is(t, p, point, big.NewRat(9, 2))
	is(t, nil, point, new(big.Rat))
}

// P10.1
func TestAt(t *testing.T) {
	for _, p := range slices.Concat(edges(), some(200, 10), some(15, 60)) {
		for _, point := range points() {
			is(t, p, point, worth(p, point))
			is(t, p, point[:classOf(p)], worth(p, point)) // just as many numbers as are needed
		}
	}
}

// P10.1: a point has as many numbers as the class, or more; otherwise ErrNone is told, of whatever variables there are beside.
func TestAtOfTooFew(t *testing.T) {
	point := repeated(rat(-3, 2), vars+5)
	for v := 1; v <= vars; v++ {
		for _, p := range []api.Poly{row(term(2, v, 1)), row(term(2, v, 3)), sum(term(5, v, 1), term(1)), sum(term(1, v, 1), term(1, 1, 7), term(-4))} {
			for _, n := range []int{v, v + 1, vars, vars + 5} {
				is(t, p, point[:max(v, n)], worth(p, point))
			}
			for _, n := range []int{0, 1, v / 2, v - 1} {
				isNone(t, p, point[:min(v-1, n)], api.ErrNone)
			}
			isNone(t, p, nil, api.ErrNone)
		}
	}
	for _, p := range slices.Concat(edges(), some(50, 10)) {
		c := classOf(p)
		is(t, p, point[:c], worth(p, point))
		if c > 0 {
			isNone(t, p, point[:c-1], api.ErrNone)
		} else {
			is(t, p, nil, worth(p, nil)) // numbers have a value without a point
		}
	}
	isNone(t, high()[3], point[:vars-1], api.ErrNone)
	isNone(t, row(term(1, vars, 1)), repeated(api.Rat{}, vars-1), api.ErrNone)
}

// P10.1: one that may not be is ErrArg, ahead of ErrNone.
func TestAtWrong(t *testing.T) {
	for _, bad := range wrong() {
		for _, n := range []int{0, 1, 2, 3, 4, vars, vars + 1} {
			isNone(t, bad, repeated(rat(1, 2), n), api.ErrArg)
			isNone(t, bad, make([]api.Rat, n), api.ErrArg)
		}
	}
}

// P10.1: a number that is not canonical stands for the canonical one; without a denominator it is whole.
func TestAtLoose(t *testing.T) {
	nought := api.Int{Neg: true, Mag: []uint32{0, 0}}
	three := api.Int{Mag: []uint32{3, 0, 0}}
	loose := []api.Rat{
		{}, {Num: nought}, {Den: nought}, {Num: nought, Den: nought}, {Num: three}, {Num: three, Den: nought}, {Num: whole.Of(-3), Den: nought}, {Num: three, Den: whole.Of(1)},
		{Num: whole.Of(6), Den: whole.Of(4)}, {Num: whole.Of(6), Den: whole.Of(-4)}, {Num: whole.Of(-6), Den: whole.Of(-4)}, {Num: nought, Den: whole.Of(-4)}, {Num: whole.Of(5), Den: whole.Of(-1)},
		{Num: three, Den: api.Int{Neg: true, Mag: []uint32{2, 0}}}, {Num: three, Den: three}, {Num: long(3), Den: long(3)}, {Num: whole.Of(7 << 40), Den: whole.Of(-1 << 42)},
	}
	list := slices.Concat(edges(), some(60, 10))
	for at := range loose {
		var point []api.Rat
		for v := range vars {
			point = append(point, loose[(at+v*(1+at%3))%len(loose)])
		}
		for _, p := range list {
			is(t, p, point, worth(p, point))
		}
	}
	for _, x := range loose {
		for _, exp := range []int{1, 2, 999, 1000, 1001, 5000} {
			p := sum(term(1, 1, exp), term(-2))
			is(t, p, []api.Rat{x}, worth(p, []api.Rat{x}))
		}
	}
}

// P10.1: all exponents up to MaxExp.
func TestAtHigh(t *testing.T) {
	xs := []api.Rat{rat(0, 1), rat(1, 1), rat(-1, 1), rat(2, 1), rat(1, 2), rat(-3, 2)}
	for _, x := range xs {
		for _, exp := range []int{99, 100, 101, 999, 1000, 1001, 1999, 2000, 2001, 7654, 9000, most - 1, most} {
			for _, v := range []int{1, 2, vars} {
				p := row(term(-5, v, exp))
				is(t, p, repeated(x, vars), worth(p, repeated(x, vars)))
			}
		}
		for _, p := range high() {
			is(t, p, repeated(x, vars), worth(p, repeated(x, vars)))
		}
	}
	for _, exp := range []int{1, 2, 3, 1000, most} { // what has value 0 by a difference
		p := sum(term(1, 2, exp), term(-1, 1, exp))
		is(t, p, repeated(rat(-3, 2), 2), new(big.Rat))
		is(t, p, []api.Rat{rat(2, 3), rat(-2, 3)}, worth(p, []api.Rat{rat(2, 3), rat(-2, 3)}))
	}
}

// P10.1: long ones: a term for each exponent that may be, and a power of each variable.
func TestAtLong(t *testing.T) {
	var dense, wide []api.Term
	for exp := range most + 1 {
		one := term(1)
		if exp > 0 {
			one = term(1, 1, exp)
		}
		dense = append(dense, one)
	}
	for v := 1; v <= vars; v++ {
		wide = append(wide, term(1, v, most))
	}
	half := []api.Rat{rat(1, 2)}
	want := power(big.NewRat(1, 2), most) // the sum of a row of powers: 2 less the last one
	is(t, sum(dense...), half, want.Sub(big.NewRat(2, 1), want))
	two := new(big.Rat).SetInt(new(big.Int).Lsh(big.NewInt(1), most+1))
	is(t, sum(dense...), []api.Rat{rat(2, 1)}, two.Sub(two, big.NewRat(1, 1)))
	for _, x := range []api.Rat{rat(3, 2), rat(-1, 2), rat(-7, 1)} {
		want := power(broken(x), most)
		is(t, sum(wide...), repeated(x, vars), want.Mul(want, big.NewRat(vars, 1)))
	}
}

// P10.1: Sign of values that are near to 0, and 0.
func TestSign(t *testing.T) {
	for _, c := range []struct {
		p     api.Poly
		point []api.Rat
		want  int
	}{
		{sum(term(2, 1, 1), term(-1)), []api.Rat{rat(1, 2)}, 0},
		{sum(term(2, 1, 1), term(-1)), []api.Rat{rat(1000001, 2000000)}, 1},
		{sum(term(2, 1, 1), term(-1)), []api.Rat{rat(999999, 2000000)}, -1},
		{sum(term(-1, 1, 2), term(2)), []api.Rat{rat(1414213562, 1000000000)}, 1},
		{sum(term(-1, 1, 2), term(2)), []api.Rat{rat(1414213563, 1000000000)}, -1},
		{sum(term(1, 2, 1), term(-1, 1, 1)), []api.Rat{{Num: whole.Of(-6), Den: whole.Of(4)}, {Num: whole.Of(3), Den: whole.Of(-2)}}, 0},
		{row(term(-1, 1, 3)), []api.Rat{rat(-1, 7)}, 1},
		{row(term(-1, 1, 2)), []api.Rat{rat(-1, 7)}, -1},
		{row(term(1, 1, 1)), []api.Rat{{Num: whole.Of(1), Den: whole.Of(-3)}}, -1},
		{row(term(-4)), nil, -1}, {row(term(4)), nil, 1}, {nil, nil, 0},
	} {
		s, e := value.Sign(c.p, c.point)
		if e != api.OK || s != c.want {
			t.Errorf("Sign of %s: error %d, %d, want %d", short(c.p), e, s, c.want)
		}
	}
}

// at tells a value that there must be.
func at(t *testing.T, p api.Poly, point []api.Rat) api.Rat {
	t.Helper()
	x, e := value.At(p, point)
	if e != api.OK {
		t.Errorf("At of %s: error %d", short(p), e)
	}
	return x
}

// does tells what must not be refused.
func does(t *testing.T, p api.Poly, e api.Errno) api.Poly {
	t.Helper()
	if e != api.OK {
		t.Errorf("error %d, with %s", e, short(p))
	}
	return p
}

// two tells what a function of layer 8 makes of both.
func two(t *testing.T, f func(p, q api.Poly) (api.Poly, api.Errno), p, q api.Poly) api.Poly {
	t.Helper()
	r, e := f(p, q)
	return does(t, r, e)
}

// What follows: the value of a sum, a product is that of the values.
func TestValueLaws(t *testing.T) {
	list := some(200, 8)
	for i := range len(list) - 1 {
		p, q := list[i], list[i+1]
		for _, point := range points() {
			x, y := at(t, p, point), at(t, q, point)
			if got := at(t, two(t, poly.Add, p, q), point); !same(got, ratio.Add(x, y)) {
				t.Errorf("the value of the sum of %s and %s", short(p), short(q))
			}
			if got := at(t, two(t, poly.Times, p, q), point); !same(got, ratio.Mul(x, y)) {
				t.Errorf("the value of the product of %s and %s", short(p), short(q))
			}
		}
	}
}

// putOf tells the tests' own way, term by term, what Put has to tell.
func putOf(t *testing.T, p api.Poly, v int, q api.Poly) api.Poly {
	t.Helper()
	var all api.Poly
	for _, one := range p {
		product := row(api.Term{C: one.C})
		for _, w := range one.M {
			by, times := row(term(1, w.Var, w.Exp)), 1
			if w.Var == v {
				by, times = q, w.Exp
			}
			for range times {
				product = two(t, poly.Times, product, by)
			}
		}
		all = two(t, poly.Add, all, product)
	}
	return all
}

// P10.2
func TestPut(t *testing.T) {
	list := some(120, 6)
	for i, p := range list {
		for j, q := range []api.Poly{list[(i*7+3)%len(list)], list[(i*5+1)%len(list)], edges()[i%23]} {
			v := []int{1, 4, 9, 16, 2, vars}[(i+j)%6]
			got, e := value.Put(p, v, q)
			told(t, "Put of "+short(q)+" for "+strconv.Itoa(v)+" into "+short(p), got, e, putOf(t, p, v, q))
		}
	}
	small := []api.Poly{nil, row(term(1)), row(term(-2)), row(term(1, 1, 1)), row(term(3, 2, 2)), sum(term(1, 1, 1), term(1)), sum(term(1, 2, 1), term(-1, 1, 1), term(2))}
	for _, p := range edges() {
		for _, q := range small {
			for _, v := range []int{1, 2, 3, vars} {
				got, e := value.Put(p, v, q)
				told(t, "Put of "+short(q)+" for "+strconv.Itoa(v)+" into "+short(p), got, e, putOf(t, p, v, q))
			}
		}
	}
}

// P10.2: at the edges by hand.
func TestPutByHand(t *testing.T) {
	x, y, one := row(term(1, 1, 1)), row(term(1, 2, 1)), row(term(1))
	xy := sum(term(1, 2, 1), term(1, 1, 1))
	for i, c := range []struct {
		p    api.Poly
		v    int
		q    api.Poly
		want api.Poly
	}{
		{nil, 1, x, nil}, {nil, 1, nil, nil}, {nil, vars, high()[3], nil}, {one, 1, nil, one}, {row(term(-7)), 3, high()[3], row(term(-7))},
		{x, 1, nil, nil}, {x, 1, x, x}, {x, 1, y, y}, {x, 2, one, x}, {x, 2, nil, x}, {x, 2, row(term(1, 1, most)), x}, {x, vars, xy, x},
		{sum(term(1, 1, 2), term(5)), 1, nil, row(term(5))}, // the 0-th power of 0 is 1
		{sum(term(1, 1, 2), term(5)), 1, row(term(-1)), row(term(6))},
		{sum(term(1, 1, 2), term(-1, 2, 1)), 2, row(term(1, 1, 2)), nil}, // all falls away
		{sum(term(1, 2, 2), term(-1, 1, 2)), 2, x, nil},
		{xy, 1, xy, sum(term(2, 2, 1), term(1, 1, 1))}, // it has the variable itself
		{row(term(1, 1, 2)), 1, sum(term(1, 1, 1), term(1)), sum(term(1, 1, 2), term(2, 1, 1), term(1))},
		{row(term(3, 1, 1, 2, 2)), 2, sum(term(1, 1, 1), term(-1)), sum(term(3, 1, 3), term(-6, 1, 2), term(3, 1, 1))},
		{sum(term(1, 1, 1, 2, 2), term(-2, 1, 1), term(1)), 1, row(term(2, 3, 1)), sum(term(2, 2, 2, 3, 1), term(-4, 3, 1), term(1))},
		{row(term(1, 5, 3)), 5, row(term(-2, vars, 7)), row(term(-8, vars, 21))},
	} {
		got, e := value.Put(c.p, c.v, c.q)
		told(t, "Put "+strconv.Itoa(i), got, e, c.want)
	}
	for v := 1; v <= vars; v++ {
		p, z := sum(term(2, v, 3), term(1, v, 1), term(-1)), row(term(1, v%vars+1, 1))
		got, e := value.Put(p, v, row(term(1, v, 1)))
		told(t, "a variable for itself", got, e, p)
		got, e = value.Put(p, v, z)
		told(t, "the next variable", got, e, sum(term(2, v%vars+1, 3), term(1, v%vars+1, 1), term(-1)))
		got, e = value.Put(p, v%vars+1, z)
		told(t, "for one that is not there", got, e, p)
		got, e = value.Put(p, v, row(term(2)))
		told(t, "a number", got, e, row(term(17)))
	}
}

// P10.2: one that may not be, or no variable, is ErrArg, ahead of ErrExp.
func TestPutWrong(t *testing.T) {
	top := row(term(1, 1, most))
	for _, bad := range wrong() {
		for _, good := range slices.Concat(edges()[:20], high()) {
			for _, v := range []int{1, 2, vars, 0, vars + 1} {
				p, e := value.Put(bad, v, good)
				nothing(t, "Put into a wrong one", p, e, api.ErrArg)
				p, e = value.Put(good, v, bad)
				nothing(t, "Put of a wrong one", p, e, api.ErrArg)
			}
		}
		p, e := value.Put(bad, 1, bad)
		nothing(t, "Put of two wrong ones", p, e, api.ErrArg)
		p, e = value.Put(nil, 1, bad)
		nothing(t, "Put of a wrong one into 0", p, e, api.ErrArg)
		p, e = value.Put(bad, 1, nil)
		nothing(t, "Put of 0 into a wrong one", p, e, api.ErrArg)
	}
	for _, v := range notVariables() {
		for _, p := range slices.Concat(edges()[:20], high()) {
			for _, q := range []api.Poly{nil, row(term(1)), row(term(1, 1, 1)), top} {
				got, e := value.Put(p, v, q)
				nothing(t, "Put for "+strconv.Itoa(v), got, e, api.ErrArg)
			}
		}
	}
}

// both is 5 v^e w^f - 1, for unlike v and w; without w, if f is 0.
func both(t *testing.T, v, e, w, f int) api.Poly {
	t.Helper()
	p := row(term(5, v, e))
	if f > 0 {
		p = two(t, poly.Times, p, row(term(1, w, f)))
	}
	return two(t, poly.Add, p, row(term(-1)))
}

// P10.2: in powers and products an exponent of MaxExp is not too great, one more is, in any variable.
func TestPutExponents(t *testing.T) {
	for v := 1; v <= vars; v++ {
		w := v%vars + 1
		for _, c := range []struct{ exp, by, beside int }{{1, most, 0}, {1, most - 3, 3}, {2, most / 2, 0}, {2, 4000, 2000}, {3, 3333, 1}, {100, 100, 0}, {101, 99, 1}, {most / 2, 2, 0}, {most / 3, 3, 1}, {most, 1, 0}, {17, 1, most - 17}} {
			what := "Put of a power " + strconv.Itoa(c.by) + " for one " + strconv.Itoa(c.exp) + " of " + strconv.Itoa(v)
			sign := int64(1 - 2*(c.exp%2))
			p, e := value.Put(both(t, v, c.exp, w, c.beside), v, row(term(-1, w, c.by)))
			told(t, what, p, e, sum(term(5*sign, w, most), term(-1)))
			p, e = value.Put(both(t, v, c.exp, w, c.beside+1), v, row(term(-1, w, c.by)))
			nothing(t, what+", and one beside", p, e, api.ErrExp)
			if c.exp > 1 {
				p, e = value.Put(both(t, v, c.exp, w, c.beside), v, sum(term(1, w, c.by), term(1, v, most/c.exp+1)))
				nothing(t, what+", and the same variable", p, e, api.ErrExp)
			}
			if c.exp < most {
				p, e = value.Put(both(t, v, c.exp+1, w, c.beside), v, row(term(-1, w, c.by)))
				nothing(t, what+", and a power more", p, e, api.ErrExp)
			}
			if c.by < most {
				p, e = value.Put(both(t, v, c.exp, w, c.beside), v, row(term(-1, w, c.by+1)))
				nothing(t, what+", and a greater one put", p, e, api.ErrExp)
			}
		}
	}
}

// P10.2: ErrExp is told also of what would fall away in the sum, of each place, and of the variable itself; 0 has no exponents.
func TestPutTooGreat(t *testing.T) {
	x, y, half := row(term(1, 1, 1)), row(term(1, 2, 1)), row(term(1, 1, most/2))
	for i, c := range []struct {
		p api.Poly
		v int
		q api.Poly
	}{
		{row(term(1, 1, 2)), 1, row(term(1, 1, most))},
		{row(term(1, 1, most)), 1, row(term(1, 1, 2))},
		{row(term(1, 1, 1, 2, most)), 1, y},
		{row(term(1, 1, most, 2, 1)), 2, x},
		{row(term(1, 1, most/2, 2, 2)), 2, sum(term(1, 1, most/2), term(1, vars, 1), term(1))},
		{sum(term(1, 2, 3), term(-1, 1, most/2, 2, 2)), 2, half}, // x^15000 - x^15000
	} {
		got, e := value.Put(c.p, c.v, c.q)
		nothing(t, "Put "+strconv.Itoa(i), got, e, api.ErrExp)
		got, e = value.Put(c.p, c.v, nil)
		told(t, "Put of 0", got, e, nil)
	}
	lower := sum(term(1, 3, 1, 4, 1), term(1, 1, most, 4, 1), term(9)) // too great in a term that is not the first one
	got, e := value.Put(lower, 4, sum(term(1, 2, 1), term(1, 1, 1)))
	nothing(t, "Put", got, e, api.ErrExp)
	middle := sum(term(1, 4, 3), term(1, 1, most, 4, 1), term(9)) // in a coefficient that is not the last one
	got, e = value.Put(middle, 4, sum(term(1, 2, 1), term(1, 1, 1)))
	nothing(t, "Put", got, e, api.ErrExp)
	got, e = value.Put(middle, 4, sum(term(1, 2, 1), term(1, 5, 1)))
	told(t, "Put", got, e, putOf(t, middle, 4, sum(term(1, 2, 1), term(1, 5, 1))))
	many := sum(term(1, 1, 2), term(1, 2, 1), term(1, 3, 1), term(1, 4, 1), term(1)) // told ahead of the work: its 5000th power would be long
	got, e = value.Put(row(term(1, 1, most)), 1, many)
	nothing(t, "Put of many terms", got, e, api.ErrExp)
	got, e = value.Put(sum(term(1, 1, 40, 5, most-39), term(1, 1, 39)), 1, two(t, poly.Add, many, row(term(1, 5, 1))))
	nothing(t, "Put of many terms", got, e, api.ErrExp)
}

// P10.2: powers that are far beyond those that layers 4 and 8 make at once, of long ones too.
func TestPutHigh(t *testing.T) {
	for _, exp := range []int{99, 100, 101, 102, 999, 1000, 1001, 2000, most - 1, most} {
		p := sum(term(3, 1, exp), term(-1))
		for _, n := range []int64{0, 1, -1, 2, -3} {
			want := new(big.Int).Exp(big.NewInt(n), big.NewInt(int64(exp)), nil)
			want.Mul(want, big.NewInt(3)).Sub(want, big.NewInt(1))
			q := poly.Number(whole.Of(n))
			got, e := value.Put(p, 1, q)
			told(t, strconv.FormatInt(n, 10)+" for x in x^"+strconv.Itoa(exp), got, e, poly.Number(asInt(want)))
		}
		got, e := value.Put(p, 1, row(term(-1, vars, 1)))
		told(t, "another variable", got, e, sum(term(3-6*int64(exp%2), vars, exp), term(-1)))
		if exp > 300 {
			continue
		}
		got, e = value.Put(row(term(1, 1, exp)), 1, sum(term(1, 2, 1), term(1)))
		var want []api.Term
		for k := range exp + 1 {
			one := api.Term{C: asInt(new(big.Int).Binomial(int64(exp), int64(k)))}
			if k > 0 {
				one.M = of(2, k)
			}
			want = append(want, one)
		}
		told(t, "a power of a sum", got, e, sum(want...))
	}
	var dense []api.Term
	for exp := 1; exp <= most; exp++ {
		dense = append(dense, term(int64(exp), 2, exp))
	}
	got, e := value.Put(sum(dense...), 2, row(term(1, 1, 1)))
	for i := range dense {
		dense[i].M = of(1, i+1)
	}
	told(t, "a variable for another one in a long one", got, e, sum(dense...))
	got, e = value.Put(sum(dense...), 1, row(term(1)))
	told(t, "1 in a long one", got, e, row(term(most*(most+1)/2)))
}

// What follows: a polynomial put for a variable, at a point, is what its value there makes.
func TestPutAtPoint(t *testing.T) {
	list := some(120, 6)
	for i := range len(list) - 1 {
		p, q := list[i], list[i+1]
		for _, v := range []int{1, 4, 9, 16, 25} {
			r, e := value.Put(p, v, q)
			does(t, r, e)
			for _, point := range points() {
				moved := slices.Clone(point)
				moved[v-1] = at(t, q, point)
				if !same(at(t, r, point), at(t, p, moved)) {
					t.Errorf("%s put for %d into %s", short(q), v, short(p))
				}
			}
		}
	}
}
