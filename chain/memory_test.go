package chain_test

import (
	"slices"
	"testing"

	"porism/api"
	"porism/chain"
	"porism/meter"
	"porism/poly"
)

// deep tells the same terms in memory of their own, with marks behind all lists.
func deep(p api.Poly) api.Poly {
	mark := term(1, 7, 7)
	q := make(api.Poly, 0, len(p)+1)
	for _, t := range p {
		t.C.Mag = append(slices.Clone(t.C.Mag), 77)[:len(t.C.Mag)]
		t.M = append(slices.Clone(t.M), mark.M[0])[:len(t.M)]
		q = append(q, t)
	}
	return append(q, mark)[:len(p)]
}

// stays tells whether a deep one is still as it was made of p, also behind all lists.
func stays(q, p api.Poly) bool {
	fresh := deep(p)
	if !poly.Same(q[:len(q)+1], fresh[:len(p)+1]) {
		return false
	}
	for i, t := range q {
		n, k := len(t.C.Mag)+1, len(t.M)+1
		if !slices.Equal(t.C.Mag[:n], fresh[i].C.Mag[:n]) || !slices.Equal(t.M[:k], fresh[i].M[:k]) {
			return false
		}
	}
	return true
}

// deepList is deep ones of a list's, with one behind its end.
func deepList(l []api.Poly) []api.Poly {
	q := make([]api.Poly, 0, len(l)+1)
	for _, p := range l {
		q = append(q, deep(p))
	}
	return append(q, deep(read("x9")))[:len(l)]
}

// listStays tells whether a deep list is still as it was made of l, also behind its end.
func listStays(q, l []api.Poly) bool {
	return len(q) == len(l) && slices.EqualFunc(q[:len(q)+1], append(slices.Clone(l), read("x9")), stays)
}

// deepDivision is one like d in memory of its own, with marks behind all lists.
func deepDivision(d api.Division) api.Division {
	return api.Division{Powers: append(slices.Clone(d.Powers), 77)[:len(d.Powers)], Cofactors: deepList(d.Cofactors), Rest: deep(d.Rest)}
}

// divisionStays tells whether a deep one is still as it was made of d, also behind all lists.
func divisionStays(q, d api.Division) bool {
	n := len(d.Powers)
	return slices.Equal(q.Powers, d.Powers) && q.Powers[:n+1][n] == 77 && listStays(q.Cofactors, d.Cofactors) && stays(q.Rest, d.Rest)
}

// spoil fills all lists of polynomials, also behind their lengths, each with marks of its own, and tells whether no list has another one's.
func spoil(l ...api.Poly) bool {
	var terms []*api.Term
	for _, p := range l {
		p = p[:cap(p)]
		for i := range p {
			terms = append(terms, &p[i])
		}
	}
	for i, t := range terms {
		t.C.Mag, t.M = t.C.Mag[:cap(t.C.Mag)], t.M[:cap(t.M)]
		for j := range t.C.Mag {
			t.C.Mag[j] = uint32(i)
		}
		for j := range t.M {
			t.M[j] = api.Power{Var: -i, Exp: -i}
		}
	}
	for i, t := range terms {
		isOther := func(w api.Power) bool { return w.Var != -i }
		if slices.ContainsFunc(t.C.Mag, func(limb uint32) bool { return limb != uint32(i) }) || slices.ContainsFunc(t.M, isOther) {
			return false
		}
	}
	for i, t := range terms { // a term that two lists have is there twice
		*t = term(1, i, i)
	}
	for i, t := range terms {
		if t.M[0].Var != i {
			return false
		}
	}
	return true
}

// spoilDivisions fills all lists of some answers, and tells whether no list has another one's.
func spoilDivisions(l ...api.Division) bool {
	var polys []api.Poly
	isOwn := true
	for _, d := range l {
		polys = append(append(polys, d.Cofactors...), d.Rest)
		for k := range d.Powers[:cap(d.Powers)] {
			isOwn = isOwn && d.Powers[:cap(d.Powers)][k] >= 0
			d.Powers[:cap(d.Powers)][k] = -1
		}
	}
	isOwn = spoil(polys...) && isOwn
	for _, d := range l {
		for k := range d.Cofactors[:cap(d.Cofactors)] {
			isOwn = isOwn && (len(d.Cofactors[:cap(d.Cofactors)][k]) == 0 || len(d.Cofactors[:cap(d.Cofactors)][k][0].M) > 0)
			d.Cofactors[:cap(d.Cofactors)][k] = make(api.Poly, 1)
		}
	}
	return isOwn
}

// given are what is handed in: also what is refused.
func given() []task {
	list := append(tasks(), lots(200)...)
	for _, bad := range wrong() {
		list = append(list, task{bad, nil}, task{bad, reads("x1 x2")}, task{read("x2"), []api.Poly{bad}}, task{read("x2"), []api.Poly{read("x1"), bad}})
	}
	return append(list, task{read("x2"), reads("x2 x1")}, task{read("x3^2"), reads("x1^6000*x2-1 x1^6000*x3-x2")})
}

// What is handed in stays, also behind all lengths; what is told is in memory of its own, and no two lists share any.
func TestMemory(t *testing.T) {
	for _, w := range given() {
		for _, limits := range []api.Limits{{}, {Fuel: 1, Limbs: 2, Terms: 3}, {Fuel: 9, Limbs: 99, Terms: 99}} {
			m, _ := meter.New(limits)
			own := task{deep(w.f), deepList(w.l)}
			a, b, c := rest(m, own), reduce(m, own), rest(m, own)
			if !spoilDivisions(a.d, b.d, c.d) {
				t.Errorf("%s: two lists share memory", w.text())
			}
			chain.May(own.l)
			if !stays(own.f, w.f) || !listStays(own.l, w.l) {
				t.Fatalf("changed: %s to %s", w.text(), own.text())
			}
		}
	}
}

// What is told once is told again, whatever was done to it: nothing is kept.
func TestNothingKept(t *testing.T) {
	for _, w := range given() {
		m, _ := meter.New(api.Limits{Fuel: 9, Limbs: 99, Terms: 99})
		if a := rest(m, w); a.e != api.OK && a.e != api.ErrArg {
			continue
		}
		for _, call := range []func(m *meter.Meter, w task) answer{rest, reduce} {
			first := call(nil, w)
			want := answer{deepDivision(first.d), first.e}
			spoilDivisions(first.d)
			told(t, "again", call(nil, w), want)
		}
	}
}

// Identity leaves all as it was, whether it tells true or false; and one polynomial may stand in many places.
func TestIdentityMemory(t *testing.T) {
	for _, w := range given() {
		m, _ := meter.New(api.Limits{Fuel: 9, Limbs: 99, Terms: 99})
		a := rest(m, w)
		d := a.d
		if a.e != api.OK {
			d = api.Division{Powers: make([]int, len(w.l)), Cofactors: w.l, Rest: w.f}
		}
		for range 2 {
			own, with := task{deep(w.f), deepList(w.l)}, deepDivision(d)
			for range 2 {
				if got := chain.Identity(own.f, own.l, with); got != chain.Identity(w.f, w.l, d) {
					t.Errorf("%s: %t, then %t", w.text(), got, !got)
				}
			}
			if !stays(own.f, w.f) || !listStays(own.l, w.l) || !divisionStays(with, d) {
				t.Fatalf("changed: %s to %s", w.text(), own.text())
			}
			d.Rest = read("x4^9") // none that is told of them
		}
	}
	one := deep(read("2*x1-4294967296"))
	l := []api.Poly{one, one, one}
	if !chain.Identity(one, l, api.Division{Powers: numbers(1, 0, 1), Cofactors: []api.Poly{read("1"), read("3"), read("0")}}) || !stays(one, read("2*x1-4294967296")) {
		t.Error("one polynomial in many places")
	}
}
