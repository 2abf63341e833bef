package pseudo_test

import (
	"slices"
	"testing"

	"porism/api"
	"porism/meter"
	"porism/poly"
)

// deep tells the same terms in memory of their own, with marks behind all lists.
func deep(p api.Poly) api.Poly {
	mark := api.Term{C: api.Int{Mag: []uint32{77}}, M: of(7, 7)}
	q := make(api.Poly, 0, len(p)+1)
	for _, t := range p {
		t.C.Mag = append(slices.Clone(t.C.Mag), 77)[:len(t.C.Mag)]
		t.M = append(slices.Clone(t.M), mark.M[0])[:len(t.M)]
		q = append(q, t)
	}
	return append(q, mark)[:len(p)]
}

// stays tells whether a deep one is still as it was made of p, also behind all lists.
func stays(q, p api.Poly) bool {
	fresh := deep(p)
	if !poly.Same(q[:len(q)+1], fresh[:len(p)+1]) {
		return false
	}
	for i, t := range q {
		n, k := len(t.C.Mag)+1, len(t.M)+1
		if !slices.Equal(t.C.Mag[:n], fresh[i].C.Mag[:n]) || !slices.Equal(t.M[:k], fresh[i].M[:k]) {
			return false
		}
	}
	return true
}

// spoil fills all lists of an answer, also behind their lengths, each with marks of its own, and tells whether no list has another one's.
func spoil(l ...api.Poly) bool {
	var terms []*api.Term
	for _, p := range l {
		p = p[:cap(p)]
		for i := range p {
			terms = append(terms, &p[i])
		}
	}
	for i, t := range terms {
		t.C.Mag, t.M = t.C.Mag[:cap(t.C.Mag)], t.M[:cap(t.M)]
		for j := range t.C.Mag {
			t.C.Mag[j] = uint32(i)
		}
		for j := range t.M {
			t.M[j] = api.Power{Var: -i, Exp: -i}
		}
	}
	for i, t := range terms {
		for _, limb := range t.C.Mag {
			if limb != uint32(i) {
				return false
			}
		}
		for _, w := range t.M {
			if w.Var != -i {
				return false
			}
		}
	}
	for i, t := range terms { // a term that two lists have is there twice
		*t = api.Term{M: of(i, i)}
	}
	for i, t := range terms {
		if t.M[0].Var != i {
			return false
		}
	}
	return true
}

// pairs are what is handed in: also what is refused, and one polynomial twice.
func pairs() [][2]api.Poly {
	x, y := row(term(1, 1, 1)), row(term(1, 4, 1))
	list := [][2]api.Poly{
		{y, y}, {y, x}, {x, y}, {nil, y}, {y, nil}, {row(term(5, 4, 1)), row(term(5, 4, 1))}, {sum(term(1, 4, 3), term(2)), sum(term(1, 4, 1), term(1))},
		{sum(term(1, 4, 1), term(1, 1, 2)), sum(term(1, 4, 1), term(3, 1, 1))}, {sum(term(1, 2, most, 4, 1), term(1)), sum(term(1, 2, 1, 4, 1), term(1))},
	}
	some := some(200, 6)
	for i, f := range some {
		list = append(list, [2]api.Poly{f, some[(i*7+3)%len(some)]}, [2]api.Poly{f, f})
	}
	for _, bad := range wrong() {
		list = append(list, [2]api.Poly{bad, y}, [2]api.Poly{y, bad})
	}
	return list
}

// What is handed in stays, also behind all lengths; what is told is in memory of its own, and quotient and rest share none.
func TestMemory(t *testing.T) {
	for _, l := range pairs() {
		for _, v := range []int{0, 1, 4, 9} {
			for _, limits := range []api.Limits{{}, {Fuel: 1, Limbs: 2, Terms: 3}, {Fuel: 99, Limbs: 99, Terms: 9999}} {
				m, _ := meter.New(limits)
				f, g := deep(l[0]), deep(l[1])
				for _, by := range []*meter.Meter{nil, m} {
					a, b := divide(by, f, g, v), rest(by, f, g, v)
					if !spoil(a.q, a.r, b.r) {
						t.Errorf("%s by %s in %d: two lists share memory", text(l[0]), text(l[1]), v)
					}
					if !stays(f, l[0]) || !stays(g, l[1]) {
						t.Fatalf("%s by %s in %d changed them: %s, %s", text(l[0]), text(l[1]), v, text(f), text(g))
					}
				}
			}
		}
	}
}

// What is told once is told again, whatever was done to it: nothing is kept; and both may be one list.
func TestNothingKept(t *testing.T) {
	for _, l := range pairs() {
		f, g := l[0], l[1]
		first := divide(nil, f, g, 4)
		want := first
		want.q, want.r = deep(first.q), deep(first.r)
		spoil(first.q, first.r)
		told(t, "Divide again", divide(nil, f, g, 4), want)
		want.q = nil
		told(t, "Rest behind it", rest(nil, f, g, 4), want)
	}
}
