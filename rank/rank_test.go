package rank_test

import (
	"cmp"
	"math"
	"slices"
	"strconv"
	"strings"
	"testing"

	"porism/api"
	"porism/poly"
	"porism/rank"
	"porism/value"
	"porism/view"
	"porism/whole"
)

const (
	vars = api.MaxVars
	most = api.MaxExp
)

// read is the polynomial of a text, whose terms may come in any order.
func read(s string) api.Poly {
	var terms []api.Term
	for _, part := range strings.Split(strings.ReplaceAll(s, "-", "+-"), "+") {
		if part == "" { // ahead of a sign at the beginning
			continue
		}
		p, e := value.Parse(part)
		if e != api.OK {
			panic(s + ": error " + strconv.Itoa(int(e)))
		}
		terms = append(terms, p...)
	}
	return sum(terms...)
}

// reads is the polynomials of some texts.
func reads(l ...string) []api.Poly {
	var list []api.Poly
	for _, s := range l {
		list = append(list, read(s))
	}
	return list
}

// text tells a polynomial for a failure's line.
func text(p api.Poly) string {
	if !poly.May(p) {
		return "one of " + strconv.Itoa(len(p)) + " terms that may not be"
	}
	s := value.Text(p)
	return s[:min(len(s), 200)]
}

func texts(l []api.Poly) string {
	s := strconv.Itoa(len(l)) + ":"
	for _, p := range l[:min(len(l), 9)] {
		s += " " + text(p)
	}
	return s
}

// term is a term of a number, and variables and exponents by turns.
func term(c int64, l ...int) api.Term {
	t := api.Term{C: whole.Of(c)}
	for i := 0; i+1 < len(l); i += 2 {
		t.M = append(t.M, api.Power{Var: l[i], Exp: l[i+1]})
	}
	return t
}

// sum is the polynomial of terms in whatever order.
func sum(l ...api.Term) api.Poly {
	p, _ := poly.Of(l)
	return p
}

// source tells numbers from 0 on, below some one, that look as if drawn by lot, always the same ones.
func source() func(below int) int {
	seed := uint64(88172645463325252)
	return func(below int) int {
		seed ^= seed << 13
		seed ^= seed >> 7
		seed ^= seed << 17
		return int(seed>>33) % below
	}
}

// sparse is a polynomial by lot, also 0, of up to so many terms, of these variables up to exps.
func sparse(next func(below int) int, count, exps int, l ...int) api.Poly {
	var terms []api.Term
	for range next(count + 1) {
		t := term(int64(next(9) - 4))
		for _, v := range l {
			if e := next(exps + 1); e > 0 {
				t.M = append(t.M, api.Power{Var: v, Exp: e})
			}
		}
		terms = append(terms, t)
	}
	return sum(terms...)
}

// wrong are lists of terms that may not be.
func wrong() []api.Poly {
	return []api.Poly{
		{term(0)}, {term(0, 1, 1)}, {{C: api.Int{Neg: true}}}, {{C: api.Int{Mag: []uint32{5, 0}}}}, {{C: api.Int{Mag: []uint32{0}}, M: term(1, 1, 1).M}},
		{term(1, 1, 1), term(1, 1, 1)}, {term(1), term(1, 1, 1)}, {term(1, 1, 1), term(1, 2, 1)}, {term(1, 2, 2), term(1, 1, 1), term(0)},
		{term(1, 1, most+1)}, {term(1, vars+1, 1)}, {term(1, 0, 1)}, {term(1, -1, 1)}, {term(1, 1, 0)}, {term(1, 1, -1)}, {term(1, 2, 1, 1, 1)}, {term(1, 1, 1, 1, 1)},
		{term(1, math.MaxInt, math.MaxInt)}, {term(1, math.MinInt, math.MinInt)}, {term(1, 1, 41), term(1, 1, 42)}, make(api.Poly, 9),
	}
}

// edges are polynomials that may be: 0, numbers, and some with the least and the greatest variables, exponents and numbers.
func edges() []api.Poly {
	return append([]api.Poly{nil, {}}, reads("1", "-1", "7", "-18446744073709551616", "x1", "-x1", "x1^2", "x1^10000", "x1^10000-x1", "x1+1", "x1-1",
		"x2", "x2+x1^10000", "x1^10000*x2", "x1*x2^2+x1^3", "x2^2", "x2^10000", "x2^9999", "x199^10000", "x200", "x200+x199^10000", "x1*x200", "x200^10000", "x200^10000+1", "x1^5*x2^4*x3^3*x4^2*x5+x5+x4^9")...)
}

// some are many polynomials of few variables, with exponents that are often the same.
func some(count int) []api.Poly {
	next := source()
	var list []api.Poly
	for range count {
		list = append(list, sparse(next, 5, 1+next(4), [][]int{{1}, {1, 2}, {1, 2, 3}, {2, 199, 200}}[next(4)]...))
	}
	return list
}

// all are those that may be, and those that may not.
func all() []api.Poly {
	return slices.Concat(edges(), some(80), wrong())
}

// ranked is the rank of one that may be, or may not, found by all its powers.
func ranked(p api.Poly) api.Rank {
	var r api.Rank
	if !poly.May(p) {
		return r
	}
	for _, t := range p {
		for _, w := range t.M {
			if w.Var > r.Class || w.Var == r.Class && w.Exp > r.Degree {
				r = api.Rank{Class: w.Var, Degree: w.Exp}
			}
		}
	}
	return r
}

// compared is the order of two ranks.
func compared(a, b api.Rank) int {
	const above = most + 1
	return cmp.Compare(a.Class*above+a.Degree, b.Class*above+b.Degree)
}

// reduced is whether p is reduced by q, found by all its powers.
func reduced(p, q api.Poly) bool {
	if !poly.May(p) || len(p) == 0 {
		return true
	}
	r := ranked(q)
	for _, t := range p {
		for _, w := range t.M {
			if w.Var == r.Class && w.Exp >= r.Degree {
				return false
			}
		}
	}
	return r.Class > 0
}

// P15.1: the chapter's examples.
func TestExamples(t *testing.T) {
	for _, l := range []struct {
		p, q    string
		c       int
		reduced bool
	}{{"x1^5", "x2", -1, true}, {"x1*x2", "x2^2", -1, true}, {"x1*x2^2", "x2+1", 1, false}} {
		if c, is := rank.Compare(read(l.p), read(l.q)), rank.Reduced(read(l.p), read(l.q)); c != l.c || is != l.reduced {
			t.Errorf("%s and %s: %d, %t", l.p, l.q, c, is)
		}
	}
}

// P15.1, Of: by hand, and at the edges.
func TestOf(t *testing.T) {
	for _, l := range []struct {
		p             string
		class, degree int
	}{
		{"0", 0, 0}, {"1", 0, 0}, {"-18446744073709551616", 0, 0}, {"x1", 1, 1}, {"x1^7-x1^3", 1, 7}, {"x1^10000+1", 1, most}, {"x1^9*x2+x1^12", 2, 1}, {"x1^9*x2^3+x2^2", 2, 3},
		{"x2^3*x7+x3*x7^2+x6^10000", 7, 2}, {"x1^10000*x200", vars, 1}, {"x200^10000-x199^10000", vars, most},
	} {
		if r := rank.Of(read(l.p)); r != (api.Rank{Class: l.class, Degree: l.degree}) {
			t.Errorf("%s: %v", l.p, r)
		}
	}
	for _, p := range all() {
		if r := rank.Of(p); r != ranked(p) {
			t.Errorf("%s: %v, want %v", text(p), r, ranked(p))
		}
	}
	for v := 1; v <= vars; v++ {
		if r := rank.Of(sum(term(2, v, v*50), term(3), term(-1, v, v))); r != (api.Rank{Class: v, Degree: v * 50}) {
			t.Errorf("the variable %d: %v", v, r)
		}
	}
}

// P15.1, Compare and Reduced: of any two, and of one itself, by all their powers; those that may not be are as 0.
func TestOfTwo(t *testing.T) {
	for _, p := range all() {
		for _, q := range all() {
			if got, want := rank.Compare(p, q), compared(ranked(p), ranked(q)); got != want {
				t.Errorf("Compare of %s and %s: %d, want %d", text(p), text(q), got, want)
			}
			if got, want := rank.Reduced(p, q), reduced(p, q); got != want {
				t.Errorf("Reduced of %s and %s: %t, want %t", text(p), text(q), got, want)
			}
		}
		if rank.Compare(p, p) != 0 || rank.Reduced(p, p) != (len(p) == 0 || !poly.May(p)) {
			t.Errorf("%s with itself: %d, %t", text(p), rank.Compare(p, p), rank.Reduced(p, p))
		}
	}
}

// P15.1, Compare and Reduced: by hand, where the two do not go together.
func TestByHand(t *testing.T) {
	for _, l := range []struct {
		p, q    string
		c       int
		reduced bool
	}{
		{"0", "0", 0, true}, {"0", "5", 0, true}, {"5", "0", 0, false}, {"5", "7", 0, false}, {"0", "x1", -1, true}, {"x1", "0", 1, false}, {"5", "x1", -1, true}, {"x1", "5", 1, false},
		{"x1", "x1", 0, false}, {"x1+1", "x1-1", 0, false}, {"x1", "x1^2", -1, true}, {"x1^2", "x1", 1, false}, {"x2", "x1", 1, true}, {"x1*x2", "x1", 1, false}, {"x2+x1^3", "x1^2", 1, false}, {"x2+x1^3", "x1^4", 1, true},
		{"x2*x3^9", "x2^2+x1^10000", 1, true}, {"x3^9+x2^2", "x2^2", 1, false}, {"x1^10000", "x2", -1, true}, {"x200", "x199^10000", 1, true}, {"x199^9999*x200", "x199^10000", 1, true}, {"x199^10000*x200", "x199^10000", 1, false},
	} {
		if c, is := rank.Compare(read(l.p), read(l.q)), rank.Reduced(read(l.p), read(l.q)); c != l.c || is != l.reduced {
			t.Errorf("%s and %s: %d, %t", l.p, l.q, c, is)
		}
	}
}

// P15.1, By: by none it is; else by each, wherever the one stands by which it is not.
func TestBy(t *testing.T) {
	for _, p := range all() {
		if !rank.By(p, nil) || !rank.By(p, []api.Poly{}) {
			t.Errorf("%s by none: false", text(p))
		}
	}
	l := reads("x1^3", "x2^2", "x3", "x200^10000")
	for _, s := range []string{"0", "1", "x1^2", "x1^2*x2", "x1^2*x2*x4^10000*x200^9999"} {
		p := read(s)
		if !rank.By(p, l) {
			t.Errorf("%s by %s: false", s, texts(l))
		}
		for i := range len(l) + 1 {
			for _, q := range append(wrong(), nil, read("-7")) {
				if with := slices.Insert(slices.Clone(l), i, q); rank.By(p, with) != (s == "0") {
					t.Errorf("%s by %s: %t", s, texts(with), s != "0")
				}
			}
		}
	}
	for _, s := range []string{"x1^3", "x2^2", "x3", "x200^10000", "x1^3*x2*x4", "x3*x4+x2"} {
		for range l {
			l = append(l[1:], l[0])
			if rank.By(read(s), l) {
				t.Errorf("%s by %s: true", s, texts(l))
			}
		}
	}
	next, list := source(), all()
	for range 2000 {
		p, l := list[next(len(list))], []api.Poly{list[next(len(list))], list[next(len(list))], list[next(len(list))]}
		if got, want := rank.By(p, l), reduced(p, l[0]) && reduced(p, l[1]) && reduced(p, l[2]); got != want {
			t.Errorf("%s by %s: %t", text(p), texts(l), got)
		}
	}
}

// sameLists is whether two lists have the same polynomials.
func sameLists(a, b []api.Poly) bool {
	return slices.EqualFunc(a, b, poly.Same)
}

// P15.2: by hand.
func TestSort(t *testing.T) {
	for _, l := range [][2][]api.Poly{
		{nil, nil}, {{}, nil}, {{nil}, nil}, {{{}, nil, {}}, nil}, {wrong(), nil},
		{reads("7"), reads("7")}, {reads("x1", "0"), reads("x1")}, {reads("x1", "-5", "x1", "5"), reads("-5", "5", "x1", "x1")},
		{reads("x2", "0", "x1^2", "x2+1", "5"), reads("5", "x1^2", "x2", "x2+1")},
		{reads("x2+1", "x2", "x2-1", "x2"), reads("x2+1", "x2", "x2-1", "x2")},
		{reads("x3", "x2^2", "x2", "x1^10000", "x1^9999*x2", "3"), reads("3", "x1^10000", "x2", "x1^9999*x2", "x2^2", "x3")},
		{reads("x200^10000", "x200", "x199^10000", "x199"), reads("x199", "x199^10000", "x200", "x200^10000")},
	} {
		if got := rank.Sort(l[0]); !sameLists(got, l[1]) {
			t.Errorf("%s: %s, want %s", texts(l[0]), texts(got), texts(l[1]))
		}
	}
}

// P15.2: many, most of them of the same rank as others, with such between them as are left out.
func TestSortMany(t *testing.T) {
	next := source()
	for count := range 60 {
		list := all()
		var l []api.Poly
		for range count * 5 {
			l = append(l, list[next(len(list))])
		}
		var want []api.Poly
		for _, p := range l { // each one behind those that are not higher
			if poly.May(p) && len(p) > 0 {
				place := 0
				for place < len(want) && compared(ranked(want[place]), ranked(p)) <= 0 {
					place++
				}
				want = slices.Insert(want, place, p)
			}
		}
		got := rank.Sort(l)
		if !sameLists(got, want) {
			t.Errorf("%s: %s, want %s", texts(l), texts(got), texts(want))
		}
		if !sameLists(rank.Sort(got), got) {
			t.Errorf("%s, sorted again: %s", texts(got), texts(rank.Sort(got)))
		}
	}
}

// P15.3: by hand, and the other way round.
func TestLower(t *testing.T) {
	for _, l := range []struct {
		a, b []api.Poly
		want int
	}{
		{nil, nil, 0}, {nil, []api.Poly{}, 0}, {reads("x1"), nil, -1}, {[]api.Poly{nil}, nil, -1}, {wrong(), nil, -1}, {reads("1", "2"), reads("3"), -1}, {reads("x200"), reads("x1", "x2"), 1},
		{reads("x1"), reads("x1+1"), 0}, {reads("x1"), reads("x1^2"), -1}, {reads("x1^10000"), reads("x2"), -1}, {reads("5"), reads("-7"), 0}, {reads("5"), reads("0"), 0}, {reads("5"), wrong()[:1], 0}, {reads("5"), reads("x1"), -1},
		{reads("x1", "x3"), reads("x1", "x2"), 1}, {reads("x1", "x2", "x3"), reads("x1", "x2^2"), -1}, {reads("x1", "x2", "x3"), reads("x1", "x2"), -1}, {reads("x1", "x2^2", "x3"), reads("x1", "x2"), 1},
		{reads("x2", "x1"), reads("x1", "x2"), 1}, {reads("x1", "x2^2", "x1"), reads("x1", "x2", "x9"), 1}, {reads("x1", "x2+x1^5", "x3"), reads("x1", "x1^7*x2", "x3-x2"), 0},
	} {
		if got, back := rank.Lower(l.a, l.b), rank.Lower(l.b, l.a); got != l.want || back != -l.want {
			t.Errorf("%s; %s: %d, the other way round %d", texts(l.a), texts(l.b), got, back)
		}
	}
}

// lists are some by lot, many of which begin alike.
func lists(count int) [][]api.Poly {
	next, few := source(), append(reads("x1", "x1-1", "x1^2", "x2+x1", "x2^2", "3", "0"), wrong()[0])
	var l [][]api.Poly
	for range count {
		var one []api.Poly
		for range next(5) {
			one = append(one, few[next(len(few))])
		}
		l = append(l, one)
	}
	return l
}

// P15.3: many, whose ranks are written out as letters, with the last one behind each end.
func TestLowerMany(t *testing.T) {
	letters := func(l []api.Poly) string {
		s := ""
		for _, p := range l {
			s += string(rune('a' + 3*ranked(p).Class + ranked(p).Degree))
		}
		return s + "z"
	}
	list := lists(120)
	for _, a := range list {
		for _, b := range list {
			if got, want := rank.Lower(a, b), strings.Compare(letters(a), letters(b)); got != want {
				t.Errorf("%s; %s: %d, want %d", texts(a), texts(b), got, want)
			}
		}
	}
}

// "What follows": Lower is an order; a longer list, its first ranks alike, is lower; among some there is a lowest one.
func TestLaws(t *testing.T) {
	list := lists(60)
	for _, a := range list {
		if longer := append(slices.Clone(a), read("x7")); rank.Lower(longer, a) != -1 || rank.Lower(a, longer) != 1 {
			t.Errorf("%s: not above a longer one", texts(a))
		}
		for _, b := range list {
			for _, c := range list {
				if rank.Lower(a, b) <= 0 && rank.Lower(b, c) <= 0 && rank.Lower(a, c) > 0 {
					t.Errorf("%s; %s; %s: no order", texts(a), texts(b), texts(c))
				}
			}
		}
	}
	lowest := slices.MinFunc(list, rank.Lower)
	if slices.ContainsFunc(list, func(l []api.Poly) bool { return rank.Lower(l, lowest) < 0 }) {
		t.Errorf("%s: not the lowest one", texts(lowest))
	}
	for _, p := range append(edges(), some(80)...) { // an initial has a lower class, so it is reduced
		if rank.Of(p).Class > 0 && !rank.Reduced(view.Initial(p), p) {
			t.Errorf("%s: the initial is not reduced", text(p))
		}
	}
}
