package rank_test

import (
	"slices"
	"testing"

	"porism/api"
	"porism/poly"
	"porism/rank"
)

// deep tells the same terms in memory of their own, with marks behind all lists.
func deep(p api.Poly) api.Poly {
	mark := term(1, 7, 7)
	q := make(api.Poly, 0, len(p)+1)
	for _, t := range p {
		t.C.Mag = append(slices.Clone(t.C.Mag), 77)[:len(t.C.Mag)]
		t.M = append(slices.Clone(t.M), mark.M[0])[:len(t.M)]
		q = append(q, t)
	}
	return append(q, mark)[:len(p)]
}

// stays tells whether a deep one is still as it was made of p, also behind all lists.
func stays(q, p api.Poly) bool {
	fresh := deep(p)
	if !poly.Same(q[:len(q)+1], fresh[:len(p)+1]) {
		return false
	}
	for i, t := range q {
		n, k := len(t.C.Mag)+1, len(t.M)+1
		if !slices.Equal(t.C.Mag[:n], fresh[i].C.Mag[:n]) || !slices.Equal(t.M[:k], fresh[i].M[:k]) {
			return false
		}
	}
	return true
}

// deepList is deep ones of a list's, with one behind its end.
func deepList(l []api.Poly) []api.Poly {
	q := make([]api.Poly, 0, len(l)+1)
	for _, p := range l {
		q = append(q, deep(p))
	}
	return append(q, deep(read("x9")))[:len(l)]
}

// listStays tells whether a deep list is still as it was made of l, also behind its end.
func listStays(q, l []api.Poly) bool {
	return len(q) == len(l) && slices.EqualFunc(q[:len(q)+1], append(slices.Clone(l), read("x9")), stays)
}

// spoil fills all lists of an answer, also behind their lengths, each with marks of its own, and tells whether no list has another one's.
func spoil(l []api.Poly) bool {
	mark := 0
	for i := range l {
		l[i] = l[i][:cap(l[i])]
		for j := range l[i] {
			t := &l[i][j]
			t.C.Mag, t.M = t.C.Mag[:cap(t.C.Mag)], t.M[:cap(t.M)]
			mark++
			for k := range t.C.Mag {
				t.C.Mag[k] = uint32(mark)
			}
			for k := range t.M {
				t.M[k] = api.Power{Var: -mark, Exp: -mark}
			}
		}
	}
	mark = 0
	for _, p := range l {
		for _, t := range p {
			mark++
			isOther := func(w api.Power) bool { return w.Var != -mark }
			if slices.ContainsFunc(t.C.Mag, func(limb uint32) bool { return limb != uint32(mark) }) || slices.ContainsFunc(t.M, isOther) {
				return false
			}
		}
	}
	for i := range l[:cap(l)] {
		l[:cap(l)][i] = api.Poly{term(99, 99, 99)}
	}
	return true
}

// What is handed in stays, also behind all lengths, also if one polynomial stands in a list more than once; what is sorted is in memory of its own, and is told again, whatever was done to it.
func TestMemory(t *testing.T) {
	twice := read("x1*x2^2-18446744073709551617*x1+x3^4")
	for _, l := range append(lists(80), all(), []api.Poly{twice, twice, nil, twice}, []api.Poly{twice}, nil) {
		given := deepList(l)
		for i, p := range given { // one and the same memory in two places
			for j := range i {
				if poly.Same(l[j], l[i]) {
					given[j] = p
				}
			}
		}
		sorted := rank.Sort(given)
		want := deepList(sorted)
		if !spoil(sorted) {
			t.Errorf("of %s: two lists share memory", texts(l))
		}
		if again := rank.Sort(given); !sameLists(again, want) {
			t.Errorf("%s: %s, then %s", texts(l), texts(want), texts(again))
		}
		for _, p := range given {
			rank.Of(p)
			rank.By(p, given)
			for _, q := range given {
				rank.Compare(p, q)
				rank.Reduced(p, q)
			}
		}
		rank.Lower(given, given)
		if !listStays(given, l) {
			t.Fatalf("changed: %s to %s", texts(l), texts(given))
		}
	}
}
