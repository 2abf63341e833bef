package content

import (
	"testing"

	"porism/api"
	"porism/poly"
	"porism/value"
	"porism/view"
	"porism/whole"
)

// following are the rests that follow p and q in v, with the sign that makes the lead greater than 0, down to one without v.
func following(t *testing.T, p, q api.Poly, v int) []api.Poly {
	t.Helper()
	var l []api.Poly
	var w work
	for x := first(p, q, v); view.Degree(x.g, v) > 0; {
		x = w.next(x)
		l = append(l, upright(x.g))
		if view.Degree(x.g, v) > 0 && !poly.Same(x.before, head(x.f, v)) {
			t.Errorf("%s and %s in %d: it begins anew behind %s", value.Text(p), value.Text(q), v, value.Text(x.f))
		}
	}
	if w.e != api.OK {
		t.Errorf("%s and %s in %d: error %d", value.Text(p), value.Text(q), v, w.e)
	}
	return l
}

// These grow slowly: a factor is taken out of each; the last one is left as it is.
func TestRests(t *testing.T) {
	p, q := read("x1^8+x1^6-3*x1^4-3*x1^3+8*x1^2+2*x1-5"), read("3*x1^6+5*x1^4-4*x1^2-9*x1+21")
	for _, l := range [][]api.Poly{following(t, p, q, 1), following(t, q, p, 1)} {
		want := []string{"15*x1^4-3*x1^2+9", "65*x1^2+125*x1-245", "9326*x1-12300"}
		if len(l) != 4 {
			t.Fatalf("%d rests", len(l))
		}
		for i, s := range want {
			if value.Text(l[i]) != s {
				t.Errorf("rest %d: %s, want %s", i, value.Text(l[i]), s)
			}
		}
		if view.Degree(l[3], 1) != 0 || len(l[3]) == 0 {
			t.Errorf("the last rest: %s", value.Text(l[3]))
		}
	}
	p, q = read("x1*x2^3+x2+1"), read("x1^2*x2^2+2*x2-x1")
	l := following(t, p, q, 2)
	if len(l) != 2 || value.Text(l[0]) != "2*x1^4*x2+4*x1*x2+x1^4-2*x1^2" {
		t.Errorf("%d rests, the first one %s", len(l), value.Text(l[0]))
	}
}

// In two variables no exponent of the other one is above what determinants of coefficients have, whatever degrees are passed by.
func TestRestsGrowSlowly(t *testing.T) {
	seed := uint64(5)
	next := func(below uint64) uint64 {
		seed = seed*6364136223846793005 + 1442695040888963407
		return seed >> 33 % below
	}
	other := func(degree int) api.Poly {
		lead, _ := poly.Var(2, degree)
		p := product(lead, sum(read("x1^2"), poly.Number(whole.Of(int64(next(7))))))
		for range 1 + next(4) {
			x, _ := poly.Var(2, 1+int(next(uint64(degree))))
			p = sum(p, product(x, poly.Number(whole.Of(int64(next(9))-4)), read([]string{"1", "x1", "x1^2", "2*x1^2-3*x1"}[next(4)])))
		}
		return sum(p, read("x1+1"))
	}
	for range 300 {
		p, q := other(3+int(next(7))), other(2+int(next(7)))
		m, n := view.Degree(p, 2), view.Degree(q, 2)
		for _, r := range following(t, p, q, 2) {
			if k := view.Degree(r, 2); k > 0 && view.Degree(r, 1) > 2*(m+n-2*k) {
				t.Errorf("%s and %s: a rest of degree %d has x1 to the %d", value.Text(p), value.Text(q), k, view.Degree(r, 1))
			}
		}
	}
}
