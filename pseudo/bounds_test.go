package pseudo_test

import (
	"testing"

	"porism/api"
	"porism/meter"
	"porism/poly"
	"porism/view"
)

// division is what a division is of.
type division struct {
	f, g api.Poly
	v    int
}

// divisions are some of several steps.
func divisions() []division {
	x, y := term(1, 1, 1), term(1, 2, 1)
	list := []division{
		{row(term(1, 2, 2)), sum(term(1, 1, 1, 2, 1), term(1)), 2},
		{sum(term(1, 2, 2), x), sum(y, term(-1, 1, 1)), 2},
		{row(term(1, 2, 5)), sum(y, x, term(1, 3, 1)), 2},
		{row(term(1, 2, 4)), sum(term(1<<20, 2, 1), term(3)), 2},
		{row(term(1<<31, 2, 3)), sum(term(1<<31, 2, 1), term(1<<31)), 2},
		{sum(term(1, 2, 3), term(-1, 1, 3)), sum(y, term(-1, 1, 1)), 2},
		{sum(term(1, 2, 3), term(-1, 1, 3)), sum(y, term(-1, 1, 1)), 1},
		{row(term(1, 2, 1)), row(term(1, 2, 2)), 2}, // no step
		{nil, row(y), 2},
	}
	some := some(60, 5)
	for i, f := range some {
		for v := 1; v <= 2; v++ {
			if g := some[(i*7+3)%len(some)]; view.Degree(g, v*v) > 0 && view.Degree(f, v*v) >= view.Degree(g, v*v) {
				list = append(list, division{f, g, v * v})
			}
		}
	}
	return list
}

// P12.1, P12.2: by each fuel, each bound of limbs and of terms, up to what is enough.
func TestBounds(t *testing.T) {
	for _, d := range divisions() {
		free := divide(nil, d.f, d.g, d.v)
		steps := free.s
		for fuel := range steps + 2 {
			metered(t, api.Limits{Fuel: fuel, Limbs: 99, Terms: 999}, d.f, d.g, d.v)
			for limbs := range 5 {
				for _, terms := range []int{0, 1, 2, 3, 4, 6, 9, 14, 20, 999} {
					metered(t, api.Limits{Fuel: fuel, Limbs: limbs, Terms: terms}, d.f, d.g, d.v)
				}
			}
		}
		for n := range 30 {
			metered(t, api.Limits{Fuel: steps, Limbs: n, Terms: 999}, d.f, d.g, d.v)
			metered(t, api.Limits{Fuel: steps, Limbs: 99, Terms: n}, d.f, d.g, d.v)
		}
	}
}

// P12.1, P12.2: as many steps as are counted are enough, one less is not; what is handed in is not measured, what a step makes is.
func TestFuel(t *testing.T) {
	for _, d := range divisions() {
		free := divide(nil, d.f, d.g, d.v)
		enough := api.Limits{Fuel: free.s, Limbs: api.MostLimbs, Terms: api.MostTerms}
		told(t, "with enough fuel", metered(t, enough, d.f, d.g, d.v), free)
		if free.s > 0 {
			enough.Fuel--
			told(t, "with a step less", metered(t, enough, d.f, d.g, d.v), answer{e: api.ErrFuel})
		} else {
			told(t, "by limits 0", metered(t, api.Limits{}, d.f, d.g, d.v), free)
		}
	}
	f := sum(api.Term{C: long(9), M: of(1, 1)}, term(1)) // too long and too many terms, but not made by a step
	told(t, "without a step", metered(t, api.Limits{}, f, row(term(1, 2, 1)), 2), answer{r: f})
	g := sum(term(1, 2, 1), api.Term{C: long(9), M: of(1, 1)}, term(1), term(1, 1, 3))
	told(t, "of g itself", metered(t, api.Limits{Fuel: 1, Limbs: 1, Terms: 1}, g, g, 2), answer{q: row(term(1)), s: 1})
}

// P12.1, P12.2: what a step asks, in its order: Step, exponents, the new rest, the new quotient; of both the limbs ahead of the terms.
func TestOrder(t *testing.T) {
	y2 := row(term(1, 2, 2))
	g := sum(term(1<<20, 2, 1), api.Term{C: long(2), M: of(1, 1)}, term(1)) // y^2 by it: the rest has 3 limbs and 2 terms, then 5 and 3; the quotient 1 and 1, then 3 and 3
	for _, c := range []struct {
		what              string
		f, g              api.Poly
		l                 api.Limits
		divided, rested   api.Need
		fuel, stepsOfRest int
	}{
		{"no fuel", y2, g, api.Limits{}, api.Need{Which: api.ErrFuel, N: 1}, api.Need{Which: api.ErrFuel, N: 1}, 0, 0},
		{"limbs of the first rest", y2, g, api.Limits{Fuel: 1, Limbs: 2, Terms: 1}, api.Need{Which: api.ErrLimbs, N: 3}, api.Need{Which: api.ErrLimbs, N: 3}, 1, 1},
		{"terms of the first rest", y2, g, api.Limits{Fuel: 1, Limbs: 3, Terms: 1}, api.Need{Which: api.ErrTerms, N: 2}, api.Need{Which: api.ErrTerms, N: 2}, 1, 1},
		{"fuel of the second step", y2, g, api.Limits{Fuel: 1, Limbs: 3, Terms: 2}, api.Need{Which: api.ErrFuel, N: 2}, api.Need{Which: api.ErrFuel, N: 2}, 1, 1},
		{"limbs of the second rest", y2, g, api.Limits{Fuel: 2, Limbs: 3, Terms: 2}, api.Need{Which: api.ErrLimbs, N: 5}, api.Need{Which: api.ErrLimbs, N: 5}, 2, 2},
		{"terms of the second rest", y2, g, api.Limits{Fuel: 2, Limbs: 5, Terms: 2}, api.Need{Which: api.ErrTerms, N: 3}, api.Need{Which: api.ErrTerms, N: 3}, 2, 2},
		{"all", y2, g, api.Limits{Fuel: 2, Limbs: 5, Terms: 3}, api.Need{}, api.Need{}, 2, 2},
		{"limbs of a quotient alone", row(api.Term{C: long(2), M: of(2, 2)}), row(term(1, 2, 1)), api.Limits{Fuel: 1, Limbs: 2}, api.Need{Which: api.ErrLimbs, N: 3}, api.Need{}, 1, 1},
		{"terms of a quotient alone", sum(term(1, 1, 1, 2, 2), term(1, 2, 2)), row(term(1, 2, 1)), api.Limits{Fuel: 1, Limbs: 2, Terms: 1}, api.Need{Which: api.ErrTerms, N: 2}, api.Need{}, 1, 1},
		{"a rest ahead of a quotient", sum(api.Term{C: long(5), M: of(2, 1)}, term(1)), row(term(1, 2, 1)), api.Limits{Fuel: 1}, api.Need{Which: api.ErrLimbs, N: 1}, api.Need{Which: api.ErrLimbs, N: 1}, 1, 1},
		{"terms of a rest ahead of a quotient's limbs", sum(api.Term{C: long(5), M: of(2, 1)}, term(1, 1, 1), term(1)), row(term(1, 2, 1)), api.Limits{Fuel: 1, Limbs: 1, Terms: 1}, api.Need{Which: api.ErrTerms, N: 2}, api.Need{Which: api.ErrTerms, N: 2}, 1, 1},
		{"fuel ahead of an exponent", row(term(1, 1, most, 2, 1)), sum(term(1, 1, 1, 2, 1), term(1)), api.Limits{}, api.Need{Which: api.ErrFuel, N: 1}, api.Need{Which: api.ErrFuel, N: 1}, 0, 0},
		{"an exponent ahead of the rest", row(term(1, 1, most, 2, 1)), sum(term(1, 1, 1, 2, 1), term(1)), api.Limits{Fuel: 1}, api.Need{Which: api.ErrExp}, api.Need{Which: api.ErrExp}, 1, 1},
	} {
		m, _ := meter.New(c.l)
		if a := divide(m, c.f, c.g, 2); a.e != c.divided.Which || m.Need() != c.divided || m.Fuel() != c.fuel {
			t.Errorf("%s: Divide: %s; needs %v, want %v; %d steps, want %d", c.what, a.text(), m.Need(), c.divided, m.Fuel(), c.fuel)
		}
		m, _ = meter.New(c.l)
		if a := rest(m, c.f, c.g, 2); a.e != c.rested.Which || m.Need() != c.rested || m.Fuel() != c.stepsOfRest {
			t.Errorf("%s: Rest: %s; needs %v, want %v; %d steps, want %d", c.what, a.text(), m.Need(), c.rested, m.Fuel(), c.stepsOfRest)
		}
		metered(t, c.l, c.f, c.g, 2)
	}
}

// sinking is one whose quotient alone gets exponents that are too great, in the third step: x^b y^4 and so on, by x y + 1, in y.
func sinking(b int) division {
	return division{sum(term(1, 1, b, 2, 4), term(1, 1, b-1, 2, 3), term(1, 2, 2)), sum(term(1, 1, 1, 2, 1), term(1)), 2}
}

// P12.1, P12.2: an exponent of MaxExp is not too great, one more is: in the head times the rest, in c v^k times g, in the head times the quotient; also where it falls away.
func TestExponents(t *testing.T) {
	y := term(1, 2, 1)
	roomy := api.Limits{Fuel: 9, Limbs: 9, Terms: 99}
	for _, c := range []struct {
		what            string
		d               division
		divided, rested api.Errno
		fuel            int // of Divide
	}{
		{"heads, which fall away", division{row(term(1, 1, most-1, 2, 1)), row(term(1, 1, 1, 2, 1)), 2}, api.OK, api.OK, 1},
		{"heads, which fall away", division{row(term(1, 1, most, 2, 1)), row(term(1, 1, 1, 2, 1)), 2}, api.ErrExp, api.ErrExp, 1},
		{"heads, which fall away", division{row(term(1, 1, 1, 2, 1)), row(term(1, 1, most, 2, 1)), 2}, api.ErrExp, api.ErrExp, 1},
		{"heads of a greater variable", division{row(term(1, 2, 1, vars, most/2)), row(term(1, 2, 1, vars, most/2)), 2}, api.OK, api.OK, 1},
		{"heads of a greater variable", division{row(term(1, 2, 1, vars, most/2)), row(term(1, 2, 1, vars, most/2+1)), 2}, api.ErrExp, api.ErrExp, 1},
		{"not in the lead of a head", division{sum(term(1, 2, 1, 3, 1), term(1, 1, most, 2, 1)), sum(term(1, 2, 1, 3, 1), term(1, 1, 1, 2, 1)), 2}, api.ErrExp, api.ErrExp, 1},
		{"the head and the rest", division{sum(y, term(1, 1, most-1)), row(term(1, 1, 1, 2, 1)), 2}, api.OK, api.OK, 1},
		{"the head and the rest", division{sum(y, term(1, 1, most)), row(term(1, 1, 1, 2, 1)), 2}, api.ErrExp, api.ErrExp, 1},
		{"the head and the rest, which falls away", division{sum(term(1, 1, most, 2, 1), term(1, 1, most)), sum(term(1, 1, 1, 2, 1), term(1, 1, 1)), 2}, api.ErrExp, api.ErrExp, 1},
		{"c and the tail", division{row(term(1, 1, most-1, 2, 1)), sum(y, term(1, 1, 1)), 2}, api.OK, api.OK, 1},
		{"c and the tail", division{row(term(1, 1, most, 2, 1)), sum(y, term(1, 1, 1)), 2}, api.ErrExp, api.ErrExp, 1},
		{"c and the tail, in the second step", division{row(term(1, 1, most-1, 2, 2)), sum(y, term(1, 1, 1)), 2}, api.ErrExp, api.ErrExp, 2},
		{"the main variable alone", division{row(term(1, 2, most)), sum(term(1, 2, most), y), 2}, api.OK, api.OK, 1},
		{"the main variable, moved up", division{row(term(1, 2, most)), sum(term(1, 2, 5), term(1, 2, 4)), 2}, api.ErrFuel, api.ErrFuel, 9},
		{"the quotient", sinking(most - 2), api.OK, api.OK, 3},
		{"the quotient", sinking(most - 1), api.ErrExp, api.OK, 3},
		{"heads, with such a quotient", sinking(most), api.ErrExp, api.ErrExp, 1},
	} {
		m, _ := meter.New(roomy)
		a, r := divide(m, c.d.f, c.d.g, c.d.v), rest(nil, c.d.f, c.d.g, c.d.v)
		if a.e != c.divided || m.Fuel() != c.fuel {
			t.Errorf("%s: Divide: %s; want error %d; %d steps, want %d", c.what, a.text(), c.divided, m.Fuel(), c.fuel)
		}
		if r.e != c.rested && c.rested != api.ErrFuel {
			t.Errorf("%s: Rest: %s; want error %d", c.what, r.text(), c.rested)
		}
		metered(t, roomy, c.d.f, c.d.g, c.d.v)
		if c.divided != api.ErrFuel {
			told(t, c.what, divide(nil, c.d.f, c.d.g, c.d.v), a)
		}
	}
	for v := 1; v <= vars; v++ { // whichever variable it is that has it
		other := v%vars + 1
		g := sum(term(1, other, 1), term(1))
		g, _ = poly.Times(g, row(term(1, v, 1)))
		both(t, row(term(1, v, 1)), g, v, (&plain{}).divide(row(term(1, v, 1)), g, v, true))
		f, _ := poly.Times(row(term(1, v, 1)), row(term(1, other, most)))
		both(t, f, g, v, answer{e: api.ErrExp})
	}
}

// What is refused by a limit is not refused there by one that is as great as Need tells; so in the end the answer is that of no meter.
func TestNeedIsEnough(t *testing.T) {
	for _, d := range divisions() {
		free := divide(nil, d.f, d.g, d.v)
		var l api.Limits
		for tries := 0; ; tries++ {
			m, _ := meter.New(l)
			a := divide(m, d.f, d.g, d.v)
			need := m.Need()
			if a.e != need.Which || tries > 200 {
				t.Fatalf("limits %v: %s, needs %v", l, a.text(), need)
			}
			if a.e == api.OK {
				told(t, "in the end", a, free)
				break
			}
			switch need.Which {
			case api.ErrFuel:
				l.Fuel = need.N
			case api.ErrLimbs:
				l.Limbs = need.N
			case api.ErrTerms:
				l.Terms = need.N
			}
		}
	}
}

// One meter counts on over some calls; its first refusal stays, and it goes on to refuse.
func TestOneMeter(t *testing.T) {
	f, g := row(term(1, 2, 2)), sum(term(1, 1, 1, 2, 1), term(1)) // two steps
	m, _ := meter.New(api.Limits{Fuel: 5, Limbs: 1, Terms: 2})
	free := divide(nil, f, g, 2)
	told(t, "Divide", divide(m, f, g, 2), free)
	told(t, "Rest", rest(m, f, g, 2), answer{r: free.r, s: 2})
	if m.Fuel() != 4 || m.Need() != (api.Need{}) {
		t.Errorf("%d steps, needs %v", m.Fuel(), m.Need())
	}
	told(t, "Divide without a step", divide(m, f, row(term(1, 2, 3)), 2), answer{r: f})
	for range 2 {
		told(t, "Divide", divide(m, f, g, 2), answer{e: api.ErrFuel})
		if m.Fuel() != 5 || m.Need() != (api.Need{Which: api.ErrFuel, N: 6}) {
			t.Errorf("%d steps, needs %v", m.Fuel(), m.Need())
		}
	}
	told(t, "Divide without a step", divide(m, f, row(term(1, 2, 3)), 2), answer{r: f})
	var zero meter.Meter
	told(t, "by a zero meter", divide(&zero, f, g, 2), answer{e: api.ErrFuel})
	told(t, "by a zero meter", rest(&zero, f, row(term(1, 2, 3)), 2), answer{r: f})
}
