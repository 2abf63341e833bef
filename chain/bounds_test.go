package chain_test

import (
	"slices"
	"strconv"
	"testing"

	"porism/api"
	"porism/chain"
	"porism/meter"
	"porism/poly"
)

// tasks are some of several divisions.
func tasks() []task {
	list := []task{
		{read("x2^2"), reads("x1^2-2 x2-x1")}, {read("x1*x2"), reads("x2-1")}, {read("x3^2"), reads("2*x1-1 x2-x1 x3-x2")}, {read("x3+x2"), reads("x1*x2-1 x2*x3-x1")},
		{read("x3^2"), reads("x1*x2+x1-1 x3-x2")}, {read("x3^2+x3"), reads("1048576*x1-3 x1*x2-7 2097152*x2*x3-x1^2")}, {read("x2"), reads("x1^2 x2^2 x3")}, {nil, reads("x1 x2")}, {read("x1"), nil},
		{read("x1*x4+x3"), reads("4294967296*x2-x1 4294967295*x3-x2 4294967296*x4-x3")},
	}
	for _, w := range lots(120) {
		words := &plain{hasMeter: true, l: api.Limits{Fuel: 8, Limbs: 99, Terms: 99}}
		if _, e := words.rest(w.f, w.l, true); e == api.OK && len(w.l) > 1 {
			list = append(list, w)
		}
	}
	return list
}

// P16.1, P16.2: by each fuel, each bound of limbs and of terms, up to what is enough.
func TestBounds(t *testing.T) {
	for _, w := range tasks() {
		free := rest(nil, w)
		steps := 0
		for _, n := range free.d.Powers {
			steps += n
		}
		for fuel := range steps + 2 {
			for limbs := range 5 {
				for _, terms := range []int{0, 1, 2, 3, 4, 6, 9, 14, 20, 999} {
					metered(t, api.Limits{Fuel: fuel, Limbs: limbs, Terms: terms}, w)
				}
			}
			a := metered(t, api.Limits{Fuel: fuel, Limbs: 99, Terms: 999}, w)
			if fuel >= steps {
				told(t, "with enough fuel", a, free)
			} else {
				told(t, "with too few steps", a, answer{e: api.ErrFuel})
			}
		}
		for n := range 40 {
			metered(t, api.Limits{Fuel: steps, Limbs: n, Terms: 999}, w)
			metered(t, api.Limits{Fuel: steps, Limbs: 99, Terms: n}, w)
		}
	}
}

// P16.1, P16.2: what is asked, in its order: behind each division its initial's power, then the cofactors of the higher ones, from the next one on; of Reduce nothing but the divisions.
func TestOrder(t *testing.T) {
	const big = "18446744073709551616" // 3 limbs
	three := "x1*x2-1 x3-x2 x4-x2"
	for _, c := range []struct {
		what          string
		w             task
		l             api.Limits
		rest, reduced api.Need
	}{
		{"no division", task{read(big + "*x1+x3"), reads("x1^2 x2")}, api.Limits{}, api.Need{}, api.Need{}},
		{"no chain", task{read(big + "*x1+x3"), nil}, api.Limits{}, api.Need{}, api.Need{}},
		{"the power of one alone, limbs", task{read("x2"), reads(big + "*x2")}, api.Limits{Fuel: 1, Limbs: 1, Terms: 1}, api.Need{Which: api.ErrLimbs, N: 3}, api.Need{}},
		{"the power of one alone, terms", task{read("x2"), reads("x1*x2+x2")}, api.Limits{Fuel: 1, Limbs: 1, Terms: 1}, api.Need{Which: api.ErrTerms, N: 2}, api.Need{}},
		{"the power of the last one, of none below it", task{read("x2"), reads("x1 " + big + "*x2")}, api.Limits{Fuel: 1, Limbs: 1, Terms: 1}, api.Need{Which: api.ErrLimbs, N: 3}, api.Need{}},
		{"the power of the last one, ahead of the next division", task{read("x1+x2"), reads("x1 x1*x2+x2-x1^3")}, api.Limits{Fuel: 1, Limbs: 1, Terms: 9}, api.Need{Which: api.ErrFuel, N: 2}, api.Need{Which: api.ErrFuel, N: 2}},
		{"the power of the last one, terms ahead of the next division", task{read("x2"), reads("x1 x1*x2+x2-x1^3")}, api.Limits{Fuel: 1, Limbs: 1, Terms: 1}, api.Need{Which: api.ErrTerms, N: 2}, api.Need{Which: api.ErrFuel, N: 2}},
		{"a quotient", task{read("x1*x2+x2"), reads("x2")}, api.Limits{Fuel: 1, Limbs: 1, Terms: 1}, api.Need{Which: api.ErrTerms, N: 2}, api.Need{}},
		{"a whole power: (x1 + 1)^3", task{read("x2^3"), reads("x1*x2+x2-1")}, api.Limits{Fuel: 3, Limbs: 1, Terms: 6}, api.Need{}, api.Need{}},
		{"the limbs of a cofactor", task{read("1048576*x3-1048575*x2"), reads("1048576*x2-1 x3-x2")}, api.Limits{Fuel: 2, Limbs: 1, Terms: 2}, api.Need{Which: api.ErrLimbs, N: 2}, api.Need{}},
		{"the terms of a cofactor", task{read("x1*x3-x1*x2+x3"), reads("x1^2*x2+x2-1 x3-x2")}, api.Limits{Fuel: 2, Limbs: 1, Terms: 3}, api.Need{Which: api.ErrTerms, N: 4}, api.Need{}},
		// x2 is left by x4 - x2 and x3 - x2, with the cofactors A of x3 - x2 and B of x4 - x2: A (x3 - x2) + B (x4 - x2) + x2
		{"of two cofactors the lower one", task{read("1048576*x3-2097151*x2+1048576*x4"), reads("1048576*x2-1 x3-x2 x4-x2")}, api.Limits{Fuel: 3, Limbs: 1, Terms: 9}, api.Need{Which: api.ErrLimbs, N: 2}, api.Need{}},
		{"the limbs of the higher one", task{read("x3-1048576*x2+1048576*x4"), reads("1048576*x2-1 x3-x2 x4-x2")}, api.Limits{Fuel: 3, Limbs: 1, Terms: 9}, api.Need{Which: api.ErrLimbs, N: 2}, api.Need{}},
		{"the terms of the lower one ahead of the limbs of the higher one", task{read("x1^2*x3+x3-x1^2*x2-1048576*x2+1048576*x4"), reads("1048576*x1*x2+1048576*x2-1 x3-x2 x4-x2")}, api.Limits{Fuel: 3, Limbs: 1, Terms: 3}, api.Need{Which: api.ErrTerms, N: 4}, api.Need{}},
		{"the limbs of the lower one ahead of the exponents of the higher one", task{read("1048576*x3-1048575*x2-x1^9999*x2+x1^9999*x4"), reads("1048576*x1^2*x2-1 x3-x2 x4-x2")}, api.Limits{Fuel: 3, Limbs: 1, Terms: 4}, api.Need{Which: api.ErrLimbs, N: 2}, api.Need{}},
		{"the exponents of the lower one ahead of the limbs of the higher one", task{read("x1^9999*x3-x1^9999*x2-1048575*x2+1048576*x4"), reads("1048576*x1^2*x2-1 x3-x2 x4-x2")}, api.Limits{Fuel: 3, Limbs: 1, Terms: 4}, api.Need{Which: api.ErrExp}, api.Need{}},
		{"the exponents of the higher one", task{read("x3-x1^9999*x2+x1^9999*x4"), reads("1048576*x1^2*x2-1 x3-x2 x4-x2")}, api.Limits{Fuel: 3, Limbs: 1, Terms: 4}, api.Need{Which: api.ErrExp}, api.Need{}},
		{"a power's exponents ahead of its limbs", task{read("x2^2"), reads("1048576*x1^5001*x2-1")}, api.Limits{Fuel: 2, Limbs: 1, Terms: 2}, api.Need{Which: api.ErrExp}, api.Need{}},
		{"a power's limbs ahead of a cofactor's exponents", task{read("x1^9999*x3-x1^9999*x2+x2"), reads(big + "*x1^2*x2 x3-x2")}, api.Limits{Fuel: 2, Limbs: 1, Terms: 4}, api.Need{Which: api.ErrLimbs, N: 3}, api.Need{}},
		{"fuel ahead of all", task{read("x4"), reads(three)}, api.Limits{}, api.Need{Which: api.ErrFuel, N: 1}, api.Need{Which: api.ErrFuel, N: 1}},
		{"fuel of the last division", task{read("x4"), reads(three)}, api.Limits{Fuel: 1, Limbs: 1, Terms: 1}, api.Need{Which: api.ErrFuel, N: 2}, api.Need{Which: api.ErrFuel, N: 2}},
		{"all", task{read("x4"), reads(three)}, api.Limits{Fuel: 2, Limbs: 1, Terms: 1}, api.Need{}, api.Need{}},
	} {
		m, _ := meter.New(c.l)
		if a := rest(m, c.w); a.e != c.rest.Which || m.Need() != c.rest {
			t.Errorf("%s: Rest: %s; needs %v, want %v", c.what, a.text(), m.Need(), c.rest)
		}
		m, _ = meter.New(c.l)
		if a := reduce(m, c.w); a.e != c.reduced.Which || m.Need() != c.reduced {
			t.Errorf("%s: Reduce: %s; needs %v, want %v", c.what, a.text(), m.Need(), c.reduced)
		}
		metered(t, c.l, c.w)
	}
}

// P16.1, P16.2: an exponent of MaxExp is not too great, one more is: in a division, in an initial's power, in a cofactor times that.
func TestExponents(t *testing.T) {
	roomy := api.Limits{Fuel: 500, Limbs: 999, Terms: 9999}
	for _, c := range []struct {
		what          string
		w             task
		rest, reduced api.Errno
	}{
		{"a division", task{read("x1^9999*x2"), reads("x1*x2-1")}, api.OK, api.OK},
		{"a division", task{read("x1^10000*x2"), reads("x1*x2-1")}, api.ErrExp, api.ErrExp},
		{"a quotient", task{read("x1^9998*x2^4+x1^9997*x2^3+x2^2"), reads("x1*x2+1")}, api.OK, api.OK},
		{"a quotient", task{read("x1^9999*x2^4+x1^9998*x2^3+x2^2"), reads("x1*x2+1")}, api.ErrExp, api.OK},
		{"a power of one alone", task{read("x2^2"), reads("x1^5000*x2-1")}, api.OK, api.OK},
		{"a power of one alone", task{read("x2^2"), reads("x1^5001*x2-1")}, api.ErrExp, api.OK},
		{"a power of one of two variables", task{read("x3^2"), reads("x1^4*x2^5000*x3-1")}, api.OK, api.OK},
		{"a power of one of two variables", task{read("x3^2"), reads("x1^4*x2^5001*x3-1")}, api.ErrExp, api.OK},
		{"a power, its variable not in the lead", task{read("x3^2"), reads("x2*x3+x1^5001*x3-1")}, api.ErrExp, api.OK},
		{"a power of 100", task{read("x2^100"), reads("x1^100*x2-1")}, api.OK, api.OK},
		{"a power of 100", task{read("x2^100"), reads("x1^101*x2-1")}, api.ErrExp, api.OK},
		{"a power of 200", task{read("x2^200"), reads("x1^50*x2-1")}, api.OK, api.OK},
		{"a power of 201", task{read("x2^201"), reads("x1^50*x2-1")}, api.ErrExp, api.OK},
		{"a power of 125", task{read("x2^125"), reads("x1^80*x2-1")}, api.OK, api.OK},
		{"a power of 126", task{read("x2^126"), reads("x1^80*x2-1")}, api.ErrExp, api.OK},
		{"a power of 101", task{read("x2^101"), reads("x1^100*x2-1")}, api.ErrExp, api.OK},
		{"a cofactor", task{read("x1^5000*x3-x1^5000*x2+x2"), reads("x1^5000*x2-1 x3-x2")}, api.OK, api.OK},
		{"a cofactor", task{read("x1^5000*x3-x1^5000*x2+x2"), reads("x1^5001*x2-1 x3-x2")}, api.ErrExp, api.OK},
		{"a cofactor, times two powers", task{read("x1^4000*x4-x1^4000*x3+x3"), reads("x1^3000*x2-1 x1^3000*x3-x2 x4-x3")}, api.OK, api.OK},
		{"a cofactor, times two powers", task{read("x1^4000*x4-x1^4000*x3+x3"), reads("x1^3000*x2-1 x1^3001*x3-x2 x4-x3")}, api.ErrExp, api.OK},
		{"a cofactor, times two powers", task{read("x1^4000*x4-x1^4000*x3+x3"), reads("x1^3001*x2-1 x1^3000*x3-x2 x4-x3")}, api.ErrExp, api.OK},
		{"powers together, which are in no cofactor", task{read("x3"), reads("x1^6000*x2-1 x1^6000*x3-x2")}, api.OK, api.OK},
		{"a cofactor that is 0", task{read("x2"), reads("x1^10000*x2-1 x3-x2")}, api.OK, api.OK},
		{"a power of a division without a step", task{read("x1"), reads("x1^10000*x2-1 x1^10000*x2^5000*x3-x2")}, api.OK, api.OK},
	} {
		m, _ := meter.New(roomy)
		for _, by := range []*meter.Meter{nil, m} {
			if a := rest(by, c.w); a.e != c.rest {
				t.Errorf("%s: Rest of %s: %s; want error %d", c.what, c.w.text(), a.text(), c.rest)
			}
			if a := reduce(by, c.w); a.e != c.reduced {
				t.Errorf("%s: Reduce of %s: %s; want error %d", c.what, c.w.text(), a.text(), c.reduced)
			}
		}
		metered(t, roomy, c.w)
	}
	for v := 1; v < vars-1; v++ { // whichever variable it is that has it
		w := task{row(term(1, vars, 2)), []api.Poly{sum(term(1, v, most/2, vars, 1), term(1))}}
		told(t, "MaxExp of "+strconv.Itoa(v), answer{e: rest(nil, w).e}, answer{})
		w.l[0] = sum(term(1, v, most/2+1, vars, 1), term(1))
		told(t, "above MaxExp of "+strconv.Itoa(v), rest(nil, w), answer{e: api.ErrExp})
	}
}

// What is refused by a limit is not refused there by one that is as great as Need tells; so in the end the answer is that of no meter.
func TestNeedIsEnough(t *testing.T) {
	for _, w := range tasks() {
		for _, call := range []func(m *meter.Meter, w task) answer{rest, reduce} {
			free := call(nil, w)
			var l api.Limits
			for tries := 0; ; tries++ {
				m, _ := meter.New(l)
				a := call(m, w)
				need := m.Need()
				if a.e != need.Which || tries > 300 {
					t.Fatalf("limits %v: %s, needs %v", l, a.text(), need)
				}
				if a.e == api.OK {
					told(t, "in the end", a, free)
					break
				}
				switch need.Which {
				case api.ErrFuel:
					l.Fuel = need.N
				case api.ErrLimbs:
					l.Limbs = need.N
				case api.ErrTerms:
					l.Terms = need.N
				}
			}
		}
	}
}

// One meter counts on over some calls; its first refusal stays.
func TestOneMeter(t *testing.T) {
	w := task{read("x2^2"), reads("x1^2-2 x2-x1")} // 3 steps
	m, _ := meter.New(api.Limits{Fuel: 7, Limbs: 1, Terms: 2})
	free := rest(nil, w)
	told(t, "Rest", rest(m, w), free)
	told(t, "Reduce", reduce(m, w), reduce(nil, w))
	if m.Fuel() != 6 || m.Need() != (api.Need{}) {
		t.Errorf("%d steps, needs %v", m.Fuel(), m.Need())
	}
	for range 2 {
		told(t, "Rest", rest(m, w), answer{e: api.ErrFuel})
		told(t, "Reduce", reduce(m, w), answer{e: api.ErrFuel})
		if m.Fuel() != 7 || m.Need() != (api.Need{Which: api.ErrFuel, N: 8}) {
			t.Errorf("%d steps, needs %v", m.Fuel(), m.Need())
		}
	}
	told(t, "without a step", rest(m, task{read("x3"), w.l}), answer{d: api.Division{Powers: numbers(0, 0), Cofactors: reads("0 0"), Rest: read("x3")}})
	var zero meter.Meter
	told(t, "by a zero meter", rest(&zero, w), answer{e: api.ErrFuel})
	told(t, "by a zero meter", reduce(&zero, w), answer{e: api.ErrFuel})
	told(t, "by a zero meter, without a step", rest(&zero, task{read("x3"), nil}), answer{d: api.Division{Rest: read("x3")}})
}

// By no meter numbers may be long.
func TestLongNumbers(t *testing.T) {
	w := task{read("x3^5"), reads("18446744073709551616*x2+x1-1 x1*x3+x3-x2")}
	d, e := chain.Rest(nil, w.f, w.l)
	if e != api.OK || !slices.Equal(d.Powers, numbers(5, 5)) || !chain.Identity(w.f, w.l, d) || !holds(t, w, d) {
		t.Errorf("error %d, powers %v", e, d.Powers)
	}
	if longest := poly.Limbs(d.Cofactors[1]); longest != 11 { // of the initial's fifth power
		t.Errorf("a cofactor of %d limbs", longest)
	}
}
