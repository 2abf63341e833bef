package result_test

import (
	"slices"
	"testing"

	"porism/api"
	"porism/poly"
	"porism/result"
)

// deep tells the same terms in memory of their own, with marks behind all lists.
func deep(p api.Poly) api.Poly {
	mark := term(1, 7, 7)
	q := make(api.Poly, 0, len(p)+1)
	for _, t := range p {
		t.C.Mag = append(slices.Clone(t.C.Mag), 77)[:len(t.C.Mag)]
		t.M = append(slices.Clone(t.M), mark.M[0])[:len(t.M)]
		q = append(q, t)
	}
	return append(q, mark)[:len(p)]
}

// stays tells whether a deep one is still as it was made of p, also behind all lists.
func stays(q, p api.Poly) bool {
	fresh := deep(p)
	if !poly.Same(q[:len(q)+1], fresh[:len(p)+1]) {
		return false
	}
	for i, t := range q {
		n, k := len(t.C.Mag)+1, len(t.M)+1
		if !slices.Equal(t.C.Mag[:n], fresh[i].C.Mag[:n]) || !slices.Equal(t.M[:k], fresh[i].M[:k]) {
			return false
		}
	}
	return true
}

// spoil fills all lists of an answer, also behind their lengths, each with marks of its own, and tells whether no list has another one's.
func spoil(p api.Poly) bool {
	p = p[:cap(p)]
	for i := range p {
		t := &p[i]
		t.C.Mag, t.M = t.C.Mag[:cap(t.C.Mag)], t.M[:cap(t.M)]
		for j := range t.C.Mag {
			t.C.Mag[j] = uint32(i)
		}
		for j := range t.M {
			t.M[j] = api.Power{Var: -i, Exp: -i}
		}
	}
	for i, t := range p {
		isOther := func(w api.Power) bool { return w.Var != -i }
		if slices.ContainsFunc(t.C.Mag, func(limb uint32) bool { return limb != uint32(i) }) || slices.ContainsFunc(t.M, isOther) {
			return false
		}
		p[i] = term(99, 99, 99)
	}
	return true
}

// pairs are what is handed in: what is answered at once, by one row, by more, with rows changed about, and what is refused.
func pairs() [][2]api.Poly {
	p, q := read("x1*x2^2-x1"), read("2*x2*x3+2*x3")
	list := [][2]api.Poly{
		{nil, p}, {p, nil}, {p, p}, {p, q}, {q, p}, {read("5"), p}, {read("-5"), read("7")}, {read("x2"), q}, {q, read("x2")}, {read("x2+x3+1"), read("x1+7")}, {read("x1+7"), read("x2+x3+1")},
		{times(p, q), q}, {times(p, q), read("x2^3+x1")}, {read("x2^41"), p}, {read("x1^10000*x2+1"), read("x1*x2^2+x1")}, {api.Poly{term(0)}, p}, {p, api.Poly{term(1), term(1)}},
	}
	next := source()
	for range 100 {
		list = append(list, [2]api.Poly{times(sparse(next, 3, 1, 1, 2, 3), power(sparse(next, 2, 2, 1, 2), 2)), gappy(next, next(4), 2, 1, 3)})
	}
	return list
}

// What is handed in stays, also behind all lengths, and one polynomial may be both; what is told is in memory of its own, and is told again, whatever was done to it.
func TestMemory(t *testing.T) {
	for _, l := range pairs() {
		p, q := deep(l[0]), deep(l[1])
		for _, call := range []func() answer{
			func() answer { return ofTwo(p, q, 1) },
			func() answer { return ofTwo(q, p, 2) },
			func() answer { return ofTwo(p, p, 2) },
			func() answer { return ofTwo(p, q, 9) },
			func() answer { return ofTwo(p, q, 0) },
			func() answer { r, e := result.Free(p); return answer{r: r, e: e} },
			func() answer { r, e := result.Free(q); return answer{r: r, e: e} },
		} {
			got := call()
			want := got
			want.r = deep(got.r)
			if !spoil(got.r) {
				t.Errorf("of %s and %s: two lists share memory", text(l[0]), text(l[1]))
			}
			if !stays(p, l[0]) || !stays(q, l[1]) {
				t.Fatalf("of %s and %s: changed to %s, %s", text(l[0]), text(l[1]), text(p), text(q))
			}
			told(t, "again", call(), want)
		}
	}
}
