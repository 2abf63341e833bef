package mono_test

import (
	"cmp"
	"math"
	"slices"
	"strconv"
	"testing"

	"porism/api"
	"porism/mono"
)

// of is a monomial of variables and exponents by turns; it may be one that may not be.
func of(l ...int) api.Mono {
	m := api.Mono{}
	for i := 0; i+1 < len(l); i += 2 {
		m = append(m, api.Power{Var: l[i], Exp: l[i+1]})
	}
	return m
}

// exponents are those of all variables, by their numbers: the tests' other way to write a monomial.
type exponents [api.MaxVars + 1]int

// spread tells the exponents of one that may be.
func spread(m api.Mono) (x exponents) {
	for _, p := range m {
		x[p.Var] = p.Exp
	}
	return x
}

// gathered tells the monomial of exponents, and whether there is one.
func gathered(x exponents) (api.Mono, bool) {
	m := api.Mono{}
	for v, exp := range x {
		if exp < 0 || exp > api.MaxExp {
			return nil, false
		}
		if exp > 0 {
			m = append(m, api.Power{Var: v, Exp: exp})
		}
	}
	return m, true
}

// each tells what f makes of the exponents of each variable.
func each(a, b api.Mono, f func(x, y int) int) exponents {
	x, y := spread(a), spread(b)
	for v := range x {
		x[v] = f(x[v], y[v])
	}
	return x
}

// order tells -1, 0 or 1 by the greatest variable in which the exponents differ.
func order(a, b api.Mono) int {
	x, y := spread(a), spread(b)
	for v := api.MaxVars; v > 0; v-- {
		if x[v] != y[v] {
			return cmp.Compare(x[v], y[v])
		}
	}
	return 0
}

func plus(x, y int) int  { return x + y }
func minus(x, y int) int { return x - y }

// full has all variables, each with the same exponent.
func full(exp int) api.Mono {
	m := api.Mono{}
	for v := range api.MaxVars {
		m = append(m, api.Power{Var: v + 1, Exp: exp})
	}
	return m
}

// edges are monomials that may be, with the least and the greatest variables and exponents.
func edges() []api.Mono {
	const v, e = api.MaxVars, api.MaxExp
	return []api.Mono{
		nil, {}, of(1, 1), of(1, 2), of(2, 1), of(1, 1, 2, 1), of(1, e), of(1, e-1), of(1, e/2), of(1, e/2+1), of(v, 1), of(v, 2), of(v-1, 1),
		of(v, e), of(v-1, e, v, e), of(1, 1, v, 1), of(1, e, v, e), of(1, e, v, 1), of(1, 1, v, e), of(2, 3, 100, e, 101, 1), of(100, e-1),
		full(1), full(2), full(e / 2), full(e), full(e)[1:], full(e)[:v-1], full(1)[50:150], full(e - 1)[100:],
	}
}

// small are all monomials of three variables with exponents up to most, 1 among them.
func small(most int) []api.Mono {
	var list []api.Mono
	for i := range most + 1 {
		for j := range most + 1 {
			for k := range most + 1 {
				var x exponents
				x[1], x[2], x[5] = i, j, k
				m, _ := gathered(x)
				list = append(list, m)
			}
		}
	}
	return list
}

// source tells numbers by a rule: the same ones at each run.
func source() func(below int) int {
	seed := uint64(0x9e3779b97f4a7c15)
	return func(below int) int {
		seed ^= seed << 13
		seed ^= seed >> 7
		seed ^= seed << 17
		return int(seed>>33) % below
	}
}

// some are many monomials that may be: of few variables and of many, with small exponents and great ones.
func some(count int) []api.Mono {
	next := source()
	list := make([]api.Mono, count)
	for i := range list {
		var x exponents
		vars, greatest := 1+next(api.MaxVars), 1+next(api.MaxExp)
		if i%2 == 0 {
			vars, greatest = 1+next(6), 1+next(4)
		}
		for v := 1; v <= vars; v++ {
			if next(2) == 0 {
				x[v] = next(greatest + 1)
			}
		}
		list[i], _ = gathered(x)
	}
	return list
}

// singles are all that may be in these tests.
func singles() []api.Mono {
	return slices.Concat(edges(), small(2), some(500))
}

// pairs hands on all pairs of small ones and of edges, and many others.
func pairs(yield func(a, b api.Mono)) {
	for _, list := range [][]api.Mono{small(3), append(edges(), some(40)...)} {
		for _, a := range list {
			for _, b := range list {
				yield(a, b)
			}
		}
	}
	list := some(2000)
	for i := range len(list) - 2 {
		yield(list[i], list[i+1]) // a short one and a long one
		yield(list[i], list[i+2])
	}
}

// wrong are monomials that may not be.
func wrong() []api.Mono {
	const v, e = api.MaxVars, api.MaxExp
	list := []api.Mono{
		of(0, 1), of(-1, 1), of(v+1, 1), of(math.MaxInt, 1), of(math.MinInt, 1), of(1<<32+1, 1), of(257, 1),
		of(1, 0), of(1, -1), of(1, e+1), of(1, math.MaxInt), of(1, math.MinInt), of(1, 1<<32+1), of(1, 1<<16+1), of(0, 0), of(v+1, e+1),
		of(1, 1, 1, 1), of(2, 1, 1, 1), of(1, 1, 3, 1, 2, 1), of(1, 1, 2, 1, 2, 1), of(1, 1, 2, 1, 1, 1), of(v, e, v, e), of(v, 1, 1, 1),
		of(0, 1, 1, 1), of(1, 1, v+1, 1), of(1, 1, v, 1, v+1, 1), of(1, 0, 2, 1), of(1, 1, 2, 0), of(1, 1, 2, 0, 3, 1), of(1, e+1, 2, 1), of(1, 1, 2, e+1), of(1, 1, 2, e+1, 3, 1),
		of(1, 1, 2, -1), of(math.MinInt, 1, math.MaxInt, 1), of(1, math.MinInt, 2, math.MinInt),
		full(0), full(-1), full(e + 1), append(full(1), full(1)...), append(full(1), api.Power{Var: v + 1, Exp: 1}), append(full(1), api.Power{Var: v, Exp: 1}),
		append(of(0, 1), full(1)...), make(api.Mono, 1), make(api.Mono, 1<<20),
	}
	for _, at := range []int{0, 1, 99, v - 1} {
		for _, p := range []api.Power{{Var: at + 1}, {Var: at + 1, Exp: -1}, {Var: at + 1, Exp: e + 1}, {Var: at, Exp: 1}, {Var: at + 2, Exp: 1}, {Exp: 1}} {
			m := full(7)
			m[at] = p
			list = append(list, m)
		}
	}
	return list
}

// short tells a list of powers for a failure's line.
func short(m api.Mono) string {
	s := strconv.Itoa(len(m)) + " powers:"
	for _, p := range m[:min(len(m), 8)] {
		s += " " + strconv.Itoa(p.Var) + "^" + strconv.Itoa(p.Exp)
	}
	return s
}

// told fails unless got is want, power by power.
func told(t *testing.T, what string, got, want api.Mono) {
	t.Helper()
	if !slices.Equal(got, want) {
		t.Errorf("%s: %s, want %s", what, short(got), short(want))
	}
}

// toldOr fails unless got is the monomial of the exponents, or the error is told alone where there is none.
func toldOr(t *testing.T, what string, got api.Mono, e api.Errno, want exponents, otherwise api.Errno) {
	t.Helper()
	m, ok := gathered(want)
	if !ok {
		nothing(t, what, got, e, otherwise)
		return
	}
	if e != api.OK {
		t.Errorf("%s: error %d", what, e)
	}
	told(t, what, got, m)
}

// nothing fails unless the error is told alone.
func nothing(t *testing.T, what string, m api.Mono, got, want api.Errno) {
	t.Helper()
	if got != want || len(m) != 0 {
		t.Errorf("%s: error %d, want %d, with %s", what, got, want, short(m))
	}
}

func TestExamples(t *testing.T) {
	m, e := mono.Times(of(1, 2, 3, 1), of(1, 1))
	nothing(t, "Times", nil, e, api.OK)
	told(t, "Times", m, of(1, 3, 3, 1))
	m, e = mono.Over(of(1, 2, 3, 1), of(1, 1))
	nothing(t, "Over", nil, e, api.OK)
	told(t, "Over", m, of(1, 1, 3, 1))
	if c, e := mono.Compare(of(1, 2, 3, 1), of(1, 1)); c != 1 || e != api.OK {
		t.Error("Compare:", c, e)
	}
	m, e = mono.Times(of(1, 5), of(2, 1))
	nothing(t, "Times", nil, e, api.OK)
	told(t, "Times", m, of(1, 5, 2, 1))
	m, e = mono.Over(of(1, 5), of(2, 1))
	nothing(t, "Over", m, e, api.ErrNone)
	if c, e := mono.Compare(of(1, 5), of(2, 1)); c != -1 || e != api.OK {
		t.Error("Compare:", c, e)
	}
}

// P7.1
func TestMay(t *testing.T) {
	for _, m := range singles() {
		if !mono.May(m) {
			t.Errorf("May(%s): false", short(m))
		}
	}
	for _, m := range wrong() {
		if mono.May(m) {
			t.Errorf("May(%s): true", short(m))
		}
	}
}

// P7.1: every pair of powers at the edges, by the words of the chapter.
func TestMayOfPairs(t *testing.T) {
	vars := []int{math.MinInt, -1, 0, 1, 2, 100, api.MaxVars - 1, api.MaxVars, api.MaxVars + 1, math.MaxInt}
	exps := []int{math.MinInt, -1, 0, 1, 2, api.MaxExp - 1, api.MaxExp, api.MaxExp + 1, math.MaxInt}
	var list []api.Power
	for _, v := range vars {
		for _, e := range exps {
			list = append(list, api.Power{Var: v, Exp: e})
		}
	}
	good := func(p api.Power) bool {
		return 1 <= p.Var && p.Var <= 200 && 1 <= p.Exp && p.Exp <= 10000
	}
	for _, p := range list {
		if mono.May(api.Mono{p}) != good(p) {
			t.Errorf("May of %v alone: %v", p, !good(p))
		}
		for _, q := range list {
			want := good(p) && good(q) && p.Var < q.Var
			if mono.May(api.Mono{p, q}) != want {
				t.Errorf("May of %v and %v: %v", p, q, !want)
			}
		}
	}
}

// P7.1: what may not be is ErrArg, whichever it is, and ahead of all other errors.
func TestWrongRefused(t *testing.T) {
	check := func(a, b api.Mono) {
		t.Helper()
		m, e := mono.Times(a, b)
		nothing(t, "Times", m, e, api.ErrArg)
		m, e = mono.Over(a, b)
		nothing(t, "Over", m, e, api.ErrArg)
		if c, e := mono.Compare(a, b); c != 0 || e != api.ErrArg {
			t.Errorf("Compare of %s and %s: %d, error %d", short(a), short(b), c, e)
		}
	}
	for i, bad := range wrong() {
		for _, good := range edges() {
			check(bad, good)
			check(good, bad)
		}
		check(bad, bad)
		check(bad, wrong()[(i+1)%len(wrong())])
	}
	tooGreat := of(1, api.MaxExp, 3, 1, 2, 1)
	check(tooGreat, of(1, api.MaxExp)) // ErrExp, if it were asked first
	check(of(1, 1), tooGreat)          // ErrNone, if it were asked first
	check(of(1, api.MaxExp+1), of(1, 1))
	check(of(1, math.MaxInt), of(1, math.MaxInt))
	check(of(1, -1), of(1, 2)) // a sum that may be
	check(of(1, api.MaxExp+2), of(1, 2))
	check(of(1, 3), of(1, -1)) // a difference that may be
}

// P7.1: what may not be is as 1, where no error is told.
func TestWrongAsOne(t *testing.T) {
	for _, bad := range wrong() {
		if c := mono.Class(bad); c != 0 {
			t.Errorf("Class(%s): %d", short(bad), c)
		}
		for _, v := range []int{0, -1, 1, 2, 3, 7, 100, api.MaxVars, api.MaxVars + 1, math.MaxInt, math.MinInt} {
			if d := mono.Degree(bad, v); d != 0 {
				t.Errorf("Degree(%s, %d): %d", short(bad), v, d)
			}
			told(t, "Without of a wrong one", mono.Without(bad, v), nil)
		}
		for _, good := range edges() {
			told(t, "Common of a wrong one and another", mono.Common(bad, good), nil)
			told(t, "Common of one and a wrong one", mono.Common(good, bad), nil)
			told(t, "Least of a wrong one and another", mono.Least(bad, good), good)
			told(t, "Least of one and a wrong one", mono.Least(good, bad), good)
		}
		for _, other := range wrong()[:20] {
			told(t, "Common of two wrong ones", mono.Common(bad, other), nil)
			told(t, "Least of two wrong ones", mono.Least(bad, other), nil)
		}
	}
}

// P7.2
func TestTimesAndOver(t *testing.T) {
	pairs(func(a, b api.Mono) {
		m, e := mono.Times(a, b)
		toldOr(t, "Times of "+short(a)+" and "+short(b), m, e, each(a, b, plus), api.ErrExp)
		m, e = mono.Over(a, b)
		toldOr(t, "Over of "+short(a)+" and "+short(b), m, e, each(a, b, minus), api.ErrNone)
	})
}

// P7.2: MaxExp is not too much, one more is, at whatever variable.
func TestGreatestExponent(t *testing.T) {
	const most = api.MaxExp
	for v := 1; v <= api.MaxVars; v++ {
		for _, exp := range []int{1, 2, most / 2, most - 1} {
			m, e := mono.Times(of(v, exp), of(v, most-exp))
			toldOr(t, "Times", m, e, spread(of(v, most)), api.ErrExp)
			m, e = mono.Times(of(v, exp), of(v, most-exp+1))
			nothing(t, "Times", m, e, api.ErrExp)
		}
		m, e := mono.Times(full(most/2), of(v, most/2))
		toldOr(t, "Times", m, e, each(full(most/2), of(v, most/2), plus), api.ErrExp)
		m, e = mono.Times(of(v, 1), full(most))
		nothing(t, "Times", m, e, api.ErrExp)
	}
}

// P7.2: a quotient that lacks one exponent alone is none, at whatever variable.
func TestNoQuotient(t *testing.T) {
	for v := 1; v <= api.MaxVars; v++ {
		less, more := full(5), full(5)
		less[v-1].Exp, more[v-1].Exp = 4, 6
		m, e := mono.Over(less, full(5))
		nothing(t, "Over by one of more", m, e, api.ErrNone)
		m, e = mono.Over(more, full(5))
		toldOr(t, "Over by one of less", m, e, spread(of(v, 1)), api.ErrNone)
		m, e = mono.Over(slices.Delete(full(1), v-1, v), full(1))
		nothing(t, "Over by one with another variable", m, e, api.ErrNone)
		m, e = mono.Over(nil, of(v, 1))
		nothing(t, "1 over a variable", m, e, api.ErrNone)
		m, e = mono.Over(of(v, api.MaxExp), of(v, api.MaxExp))
		toldOr(t, "Over by itself", m, e, exponents{}, api.ErrNone)
	}
}

// P7.3
func TestCompare(t *testing.T) {
	pairs(func(a, b api.Mono) {
		c, e := mono.Compare(a, b)
		if want := order(a, b); c != want || e != api.OK {
			t.Errorf("Compare of %s and %s: %d, error %d, want %d", short(a), short(b), c, e, want)
		}
	})
	for i, c := range []struct {
		a, b api.Mono
		want int
	}{
		{nil, of(), 0},
		{of(1, api.MaxExp), of(2, 1), -1},
		{full(api.MaxExp)[:api.MaxVars-1], of(api.MaxVars, 1), -1},
		{of(2, 1), of(1, 1, 2, 1), -1},
		{of(1, 1, 3, 2), of(2, 9, 3, 2), -1},
		{of(1, 1, 3, 2), of(1, 9, 3, 1), 1},
		{of(1, 1, 200, 1), of(2, 1), 1},
	} {
		got, e := mono.Compare(c.a, c.b)
		back, f := mono.Compare(c.b, c.a)
		if got != c.want || back != -c.want || e != api.OK || f != api.OK {
			t.Errorf("Compare %d: %d, and %d", i, got, back)
		}
	}
}

// P7.3
func TestDegreeAndClass(t *testing.T) {
	for _, m := range singles() {
		x := spread(m)
		class := 0
		for v, exp := range x {
			if got := mono.Degree(m, v); got != exp {
				t.Errorf("Degree(%s, %d): %d, want %d", short(m), v, got, exp)
			}
			if exp > 0 {
				class = v
			}
		}
		for _, v := range []int{-1, api.MaxVars + 1, math.MaxInt, math.MinInt, 1<<32 + 1} {
			if got := mono.Degree(m, v); got != 0 {
				t.Errorf("Degree(%s, %d): %d", short(m), v, got)
			}
		}
		if got := mono.Class(m); got != class {
			t.Errorf("Class(%s): %d, want %d", short(m), got, class)
		}
	}
}

// P7.4
func TestWithout(t *testing.T) {
	for _, m := range singles() {
		for v := range api.MaxVars + 1 {
			x := spread(m)
			x[v] = 0
			want, _ := gathered(x)
			told(t, "Without "+strconv.Itoa(v), mono.Without(m, v), want)
		}
		for _, v := range []int{-1, api.MaxVars + 1, math.MaxInt, math.MinInt, 1<<32 + 1} {
			told(t, "Without no variable", mono.Without(m, v), m)
		}
	}
}

// P7.4
func TestCommonAndLeast(t *testing.T) {
	pairs(func(a, b api.Mono) {
		want, _ := gathered(each(a, b, func(x, y int) int { return min(x, y) }))
		told(t, "Common of "+short(a)+" and "+short(b), mono.Common(a, b), want)
		want, _ = gathered(each(a, b, func(x, y int) int { return max(x, y) }))
		told(t, "Least of "+short(a)+" and "+short(b), mono.Least(a, b), want)
	})
}

// What follows: the order is one of all, goes with products, and 1 is the least.
func TestOrderLaws(t *testing.T) {
	compare := func(a, b api.Mono) int {
		c, e := mono.Compare(a, b)
		if e != api.OK {
			t.Errorf("Compare of %s and %s: error %d", short(a), short(b), e)
		}
		return c
	}
	list := small(2)
	slices.SortFunc(list, compare)
	for i, a := range list {
		if compare(nil, a) != cmp.Compare(0, len(a)) {
			t.Errorf("1 is not the least: %s", short(a))
		}
		for j, b := range list {
			if compare(a, b) != cmp.Compare(i, j) {
				t.Errorf("%s and %s have no place among all", short(a), short(b))
			}
			for _, c := range small(1) {
				x, _ := mono.Times(a, c)
				y, _ := mono.Times(c, b)
				if compare(x, y) != compare(a, b) {
					t.Errorf("%s and %s, each times %s", short(a), short(b), short(c))
				}
			}
		}
	}
}

// What follows: Common times Least is the product; and what is multiplied is divided again.
func TestProductLaws(t *testing.T) {
	pairs(func(a, b api.Mono) {
		product, e := mono.Times(a, b)
		other, f := mono.Times(mono.Common(a, b), mono.Least(a, b))
		back, g := mono.Times(b, a)
		if f != e || g != e {
			t.Errorf("errors of the products: %d, %d, %d", e, f, g)
		}
		told(t, "Common times Least", other, product)
		told(t, "b times a", back, product)
		if e == api.OK {
			m, e := mono.Over(product, b)
			toldOr(t, "the product over b", m, e, spread(a), api.ErrNone)
		}
		m, e := mono.Over(mono.Least(a, b), a)
		toldOr(t, "Least over a", m, e, each(mono.Least(a, b), a, minus), api.ErrNone)
		m, e = mono.Over(b, mono.Common(a, b))
		toldOr(t, "b over Common", m, e, each(b, mono.Common(a, b), minus), api.ErrNone)
	})
}

// calls are all functions that tell a monomial of others; the last one asks the rest.
func calls() []func(a, b api.Mono) api.Mono {
	return []func(a, b api.Mono) api.Mono{
		func(a, b api.Mono) api.Mono { m, _ := mono.Times(a, b); return m },
		func(a, b api.Mono) api.Mono { m, _ := mono.Over(a, b); return m },
		func(a, b api.Mono) api.Mono { return mono.Without(a, 2) },
		func(a, b api.Mono) api.Mono { return mono.Without(b, 0) },
		mono.Common,
		mono.Least,
		func(a, b api.Mono) api.Mono {
			mono.May(a)
			mono.Compare(a, b)
			mono.Degree(a, 1)
			mono.Class(b)
			return nil
		},
	}
}

// roomy tells the same monomial with marks behind its powers.
func roomy(m api.Mono) api.Mono {
	mark := api.Power{Var: 77, Exp: 77}
	return append(slices.Clone(m), mark, mark, mark)[:len(m)]
}

// spoil changes all powers, also those behind the length.
func spoil(m api.Mono) {
	m = m[:cap(m)]
	for i := range m {
		m[i] = api.Power{Var: -1, Exp: -1}
	}
}

// What is handed in stays, also behind its length; what is told is in memory of its own.
func TestMemory(t *testing.T) {
	list := slices.Concat(edges(), small(1), some(30), wrong()[:30])
	for i, call := range calls() {
		for at, a := range list {
			for _, b := range []api.Mono{a, nil, of(2, 1), list[(at*7+3)%len(list)]} {
				x, y := roomy(a), roomy(b)
				spoil(call(x, y))
				if !slices.Equal(x[:len(x)+3], roomy(a)[:len(a)+3]) || !slices.Equal(y[:len(y)+3], roomy(b)[:len(b)+3]) {
					t.Errorf("call %d of %s and %s changed one: %s, %s", i, short(a), short(b), short(x), short(y))
				}
			}
		}
	}
}

// What is told once is told again, whatever was done to it: nothing is kept.
func TestNothingKept(t *testing.T) {
	for i, call := range calls() {
		for _, m := range edges() {
			first := call(m, of(2, 1))
			want := slices.Clone(first)
			spoil(first)
			told(t, "call "+strconv.Itoa(i)+" again", call(m, of(2, 1)), want)
		}
	}
}

// The same memory may be both arguments.
func TestSharedArguments(t *testing.T) {
	for _, m := range singles() {
		want := slices.Clone(m)
		told(t, "Common of one and itself", mono.Common(m, m), want)
		told(t, "Least of one and itself", mono.Least(m, m), want)
		product, e := mono.Times(m, m)
		toldOr(t, "Times of one and itself", product, e, each(want, want, plus), api.ErrExp)
		quotient, e := mono.Over(m, m)
		toldOr(t, "Over of one and itself", quotient, e, exponents{}, api.ErrNone)
		if c, e := mono.Compare(m, m); c != 0 || e != api.OK {
			t.Errorf("Compare of %s and itself: %d, error %d", short(m), c, e)
		}
		told(t, "one after all", m, want)
	}
}

// read makes a list of powers of bytes: near the edges, but also far from them.
func read(s []byte) api.Mono {
	m := api.Mono{}
	for ; len(s) > 1; s = s[2:] {
		p := api.Power{Var: int(s[0]), Exp: int(s[1])}
		if p.Exp > 200 {
			p.Exp += api.MaxExp - 228
		}
		m = append(m, p)
	}
	return m
}

// mayBe tells the tests' own way whether one may be.
func mayBe(m api.Mono) bool {
	for i, p := range m {
		if p.Var < 1 || p.Var > api.MaxVars || p.Exp < 1 || p.Exp > api.MaxExp || i > 0 && m[i-1].Var >= p.Var {
			return false
		}
	}
	return true
}

// Whatever two lists are: told as by their exponents, or refused.
func FuzzBoth(f *testing.F) {
	f.Add([]byte{}, []byte{})
	f.Add([]byte{1, 2, 3, 1}, []byte{1, 1})
	f.Add([]byte{1, 228, 200, 5}, []byte{1, 1, 200, 227})
	f.Add([]byte{2, 1, 1, 1}, []byte{201, 1})
	f.Add([]byte{1, 229}, []byte{0, 0})
	f.Fuzz(func(t *testing.T, s, u []byte) {
		a, b := read(s), read(u)
		product, e := mono.Times(a, b)
		quotient, g := mono.Over(a, b)
		c, h := mono.Compare(a, b)
		if mono.May(a) != mayBe(a) || mono.May(b) != mayBe(b) {
			t.Fatalf("May of %s or %s", short(a), short(b))
		}
		if !mayBe(a) || !mayBe(b) {
			nothing(t, "Times", product, e, api.ErrArg)
			nothing(t, "Over", quotient, g, api.ErrArg)
			if c != 0 || h != api.ErrArg {
				t.Errorf("Compare: %d, error %d", c, h)
			}
			return
		}
		toldOr(t, "Times", product, e, each(a, b, plus), api.ErrExp)
		toldOr(t, "Over", quotient, g, each(a, b, minus), api.ErrNone)
		if c != order(a, b) || h != api.OK {
			t.Errorf("Compare: %d, error %d", c, h)
		}
	})
}
