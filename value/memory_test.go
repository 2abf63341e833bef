package value_test

import (
	"slices"
	"strings"
	"testing"

	"porism/api"
	"porism/poly"
	"porism/value"
)

// deep tells the same terms in memory of their own, with marks behind all lists.
func deep(p api.Poly) api.Poly {
	mark := api.Term{C: api.Int{Mag: []uint32{77}}, M: of(7, 7)}
	q := make(api.Poly, 0, len(p)+1)
	for _, t := range p {
		t.C = deepInt(t.C)
		t.M = append(slices.Clone(t.M), mark.M[0])[:len(t.M)]
		q = append(q, t)
	}
	return append(q, mark)[:len(p)]
}

func deepInt(x api.Int) api.Int {
	x.Mag = append(slices.Clone(x.Mag), 77)[:len(x.Mag)]
	return x
}

func deepPoint(l []api.Rat) []api.Rat {
	point := make([]api.Rat, 0, len(l)+1)
	for _, x := range l {
		point = append(point, api.Rat{Num: deepInt(x.Num), Den: deepInt(x.Den)})
	}
	return append(point, rat(7, 7))[:len(l)]
}

// staysInt tells whether a deep one is still as it was made of x, also behind its length.
func staysInt(y, x api.Int) bool {
	n := len(x.Mag)
	return y.Neg == x.Neg && len(y.Mag) == n && slices.Equal(y.Mag[:n], x.Mag) && y.Mag[:n+1][n] == 77
}

// stays tells whether a deep one is still as it was made of p, also behind all lists.
func stays(q, p api.Poly) bool {
	fresh := deep(p)
	if !poly.Same(q[:len(q)+1], fresh[:len(p)+1]) {
		return false
	}
	for i, t := range q {
		k := len(t.M) + 1
		if !staysInt(t.C, p[i].C) || !slices.Equal(t.M[:k], fresh[i].M[:k]) {
			return false
		}
	}
	return true
}

func staysPoint(got, l []api.Rat) bool {
	for i, x := range l {
		if !staysInt(got[i].Num, x.Num) || !staysInt(got[i].Den, x.Den) {
			return false
		}
	}
	return same(got[:len(l)+1][len(l)], rat(7, 7))
}

// spoil fills all lists of an answer, also behind their lengths, each with marks of its own, and tells whether no list has another one's.
func spoil(p api.Poly) bool {
	p = p[:cap(p)]
	for i := range p {
		t := &p[i]
		t.C.Mag, t.M = t.C.Mag[:cap(t.C.Mag)], t.M[:cap(t.M)]
		for j := range t.C.Mag {
			t.C.Mag[j] = uint32(i)
		}
		for j := range t.M {
			t.M[j] = api.Power{Var: -i, Exp: -i}
		}
	}
	for i, t := range p {
		for _, limb := range t.C.Mag {
			if limb != uint32(i) {
				return false
			}
		}
		for _, w := range t.M {
			if w.Var != -i {
				return false
			}
		}
	}
	clear(p)
	return true
}

// spoilRat does so with a number.
func spoilRat(x api.Rat) bool {
	num, den := x.Num.Mag[:cap(x.Num.Mag)], x.Den.Mag[:cap(x.Den.Mag)]
	for i := range num {
		num[i] = 1
	}
	for i := range den {
		den[i] = 2
	}
	return !slices.Contains(num, 2)
}

// What is handed in stays, also behind all lengths; what is told is in memory of its own, and no two lists of it share any.
func TestMemory(t *testing.T) {
	list := slices.Concat(edges(), some(40, 8), wrong())
	whereTo := [][]api.Rat{nil, points()[0], points()[5], points()[8], {{}, {Num: api.Int{Neg: true, Mag: []uint32{6, 0}}, Den: api.Int{Mag: []uint32{4, 0}}}, {Den: api.Int{Mag: []uint32{0}}}}}
	for at, p := range list {
		for _, l := range whereTo {
			q, point := deep(p), deepPoint(l)
			x, _ := value.At(q, point)
			value.Sign(q, point)
			if !spoilRat(x) {
				t.Errorf("At of %s: numerator and denominator share memory", short(p))
			}
			if !stays(q, p) || !staysPoint(point, l) {
				t.Errorf("At of %s changed what was handed in", short(p))
			}
		}
		for _, other := range []api.Poly{p, nil, row(term(1)), row(term(1, 2, 1)), list[(at*7+3)%len(list)]} {
			for _, v := range []int{0, 1, 2, 4} {
				a, b := deep(p), deep(other)
				r, _ := value.Put(a, v, b)
				if !spoil(r) {
					t.Errorf("Put of %s for %d into %s: two lists share memory", short(other), v, short(p))
				}
				if !stays(a, p) || !stays(b, other) {
					t.Errorf("Put of %s for %d into %s changed one", short(other), v, short(p))
				}
			}
		}
		q := deep(p)
		s := value.Text(q)
		kept := strings.Clone(s)
		if !stays(q, p) {
			t.Errorf("Text of %s changed it", short(p))
		}
		spoil(q)
		if s != kept {
			t.Errorf("Text of %s was %q, is %q", short(p), kept, s)
		}
	}
}

// What is told once is told again, whatever was done to it: nothing is kept.
func TestNothingKept(t *testing.T) {
	for _, p := range slices.Concat(edges(), some(60, 12)) {
		point := points()[7]
		first, _ := value.At(p, point)
		spoilRat(first)
		is(t, p, point, worth(p, point))
		put, e := value.Put(p, 1, p)
		want := deep(put)
		spoil(put)
		put, _ = value.Put(p, 1, p) // the same memory may be both arguments
		told(t, "Put again", put, e, want)
		s := value.Text(p)
		parsed, _ := value.Parse(s)
		if !spoil(parsed) {
			t.Errorf("Parse(%.60q): two lists share memory", s)
		}
		read(t, s, p)
	}
}
