package chain_test

import (
	"math"
	"slices"
	"testing"

	"porism/api"
	"porism/chain"
	"porism/meter"
	"porism/poly"
	"porism/view"
	"porism/whole"
)

// of is a division of texts.
func of(powers []int, cofactors, r string) api.Division {
	return api.Division{Powers: powers, Cofactors: reads(cofactors), Rest: read(r)}
}

// held fails unless Identity tells want of them.
func held(t *testing.T, what string, w task, d api.Division, want bool) {
	t.Helper()
	if chain.Identity(w.f, w.l, d) != want {
		t.Errorf("%s: %s; %s: %t", what, w.text(), answer{d: d}.text(), !want)
	}
}

// P16.3: by hand; the list needs not be a chain, nor the rest be reduced.
func TestIdentity(t *testing.T) {
	for _, c := range []struct {
		f, l         string
		powers       []int
		cofactors, r string
		want         bool
	}{
		{"x2^2", "x1^2-2 x2-x1", numbers(1, 2), "1 x2+x1", "2", true},
		{"x2^2", "x1^2-2 x2-x1", numbers(0, 0), "1 x2+x1", "2", true}, // the initials are 1
		{"x2^2", "x1^2-2 x2-x1", numbers(100, 100), "1 x2+x1", "2", true},
		{"x2^2", "x1^2-2 x2-x1", numbers(101, 2), "1 x2+x1", "2", false},
		{"x2^2", "x1^2-2 x2-x1", numbers(1, 2), "1 x2+x1", "3", false},
		{"x2^2", "x1^2-2 x2-x1", numbers(1, 2), "1 x2-x1", "2", false},
		{"x2^2", "x1^2-2 x2-x1", numbers(1, 2), "x2+x1 1", "2", false},
		{"x2^2", "x2-x1 x1^2-2", numbers(2, 1), "x2+x1 1", "2", true},
		{"x1*x2", "x2-1", numbers(1), "x1", "x1", true}, {"-x1*x2", "x2-1", numbers(1), "x1", "x1", false}, {"x1*x2", "x2-1", numbers(1), "-x1", "-x1", false},
		{"0", "", nil, "", "0", true}, {"5", "", nil, "", "5", true}, {"x1^2-x2", "", nil, "", "x1^2-x2", true}, {"5", "", nil, "", "-5", false}, {"5", "", nil, "", "0", false}, {"0", "", nil, "", "5", false}, {"x1", "", nil, "", "x2", false},
		// nothing is divided
		{"x2^2", "x2-x1", numbers(0), "0", "x2^2", true}, {"x2^2", "x2-x1", numbers(0), "x2", "x1*x2", true}, {"0", "x2-x1", numbers(0), "0", "0", true}, {"0", "x2-x1", numbers(7), "1", "x1-x2", true},
		// the powers tell
		{"x2", "3*x2-1", numbers(1), "1", "1", true}, {"x2", "3*x2-1", numbers(0), "1", "1", false}, {"x2", "3*x2-1", numbers(2), "1", "1", false}, {"x2", "3*x2-1", numbers(2), "3", "3", true}, {"x2", "-x2-1", numbers(1), "1", "1", true}, {"x2", "-x2-1", numbers(0), "1", "1", false}, {"x2", "-x2-1", numbers(3), "1", "1", true}, {"x2", "-x2-1", numbers(100), "1", "1", false}, {"x2", "-x2-1", numbers(100), "-1", "-1", true},
		{"x3", "x1*x2-1 x2*x3-x1", numbers(0, 1), "0 1", "x1", true}, {"x3", "x1*x2-1 x2*x3-x1", numbers(1, 1), "0 x1", "x1^2", true}, {"x3", "x1*x2-1 x2*x3-x1", numbers(1, 0), "0 1", "x1", false},
		// no chains: numbers, 0, one class more often, falling classes
		{"x1", "5", numbers(2), "5*x1", "0", true}, {"x1", "5", numbers(1), "5*x1", "0", false}, {"x1", "5", numbers(0), "0", "x1", true}, {"x1", "0", numbers(1), "x7", "0", true}, {"x1", "0", numbers(0), "x7", "x1", true}, {"x1", "0", numbers(0), "x7", "0", false}, {"x1", "0", numbers(1), "x7", "x1", false},
		{"x1^2", "x1 x1", numbers(3, 4), "x1-5 5", "0", true}, {"x1*x2", "x2 x1", numbers(1, 1), "0 x2", "0", true}, {"x2", "2*x2 3*x2 x1", numbers(1, 1, 9), "0 1 0", "3*x2", true}, {"x2", "2*x2 3*x2 x1", numbers(1, 1, 9), "0 1 0", "2*x2", false},
		// a sum in which much falls away
		{"x1^3", "x1-x2 x2-x1", numbers(0, 0), "x1^2*x3+x1^2 x1^2*x3", "x1^2*x2", true}, {"18446744073709551616*x2", "x2-1", numbers(1), "18446744073709551616", "18446744073709551616", true}, {"18446744073709551616*x2", "x2-1", numbers(1), "18446744073709551616", "18446744073709551615", false},
	} {
		held(t, "by hand", task{read(c.f), reads(c.l)}, of(c.powers, c.cofactors, c.r), c.want)
	}
}

// P16.3: as many powers and cofactors as there are polynomials, each power 0 to 100, also where all of it is 0 or 1.
func TestIdentityLengths(t *testing.T) {
	for _, s := range []string{"", "x1", "x1 x2+x1 x3"} {
		l := reads(s)
		for powers := range 5 {
			for cofactors := range 5 {
				d := api.Division{Powers: make([]int, powers), Cofactors: make([]api.Poly, cofactors)}
				held(t, "of 0", task{nil, l}, d, powers == len(l) && cofactors == len(l))
			}
		}
		held(t, "lists that are not there", task{nil, l}, api.Division{}, len(l) == 0)
		for at := range l {
			for _, n := range []int{0, 1, 2, 99, 100, 101, 102, 1000, 1 << 32, 1<<32 + 1, math.MaxInt, -1, -100, -1 << 32, math.MinInt} {
				d := api.Division{Powers: make([]int, len(l)), Cofactors: make([]api.Poly, len(l))}
				d.Powers[at] = n
				held(t, "of 0", task{nil, l}, d, 0 <= n && n <= 100)
				d.Rest = read("x4^2")
				held(t, "the initials are 1", task{d.Rest, l}, d, 0 <= n && n <= 100)
			}
		}
	}
}

// P16.3: all polynomials may be: at whatever place one stands that may not be, also if it would be the right one.
func TestIdentityWrong(t *testing.T) {
	f, l := read("x3+x2"), reads("x1*x2-1 x3-x2")
	d, _ := chain.Rest(nil, f, l)
	held(t, "as told", task{f, l}, d, true)
	for _, bad := range wrong() {
		held(t, "f", task{bad, l}, d, false)
		held(t, "f", task{bad, nil}, api.Division{Rest: bad}, false)
		held(t, "f", task{bad, nil}, api.Division{}, false)
		held(t, "the rest", task{nil, nil}, api.Division{Rest: bad}, false)
		held(t, "the rest", task{f, l}, api.Division{Powers: d.Powers, Cofactors: d.Cofactors, Rest: bad}, false)
		held(t, "f and the rest", task{bad, l}, api.Division{Powers: make([]int, 2), Cofactors: make([]api.Poly, 2), Rest: bad}, false)
		for at := range l {
			with, by := slices.Clone(l), slices.Clone(d.Cofactors)
			with[at], by[at] = bad, bad
			held(t, "one of the list", task{f, with}, d, false)
			held(t, "one of the list, of 0", task{nil, with}, api.Division{Powers: make([]int, 2), Cofactors: make([]api.Poly, 2)}, false)
			held(t, "a cofactor", task{f, l}, api.Division{Powers: d.Powers, Cofactors: by, Rest: d.Rest}, false)
			held(t, "a cofactor, of 0", task{nil, make([]api.Poly, 2)}, api.Division{Powers: make([]int, 2), Cofactors: by}, false)
		}
	}
}

// P16.3: false, where an exponent is too great: in a power, in the product of these, in that times f, in one of the list times its cofactor, also where it falls away. MaxExp is not too great.
func TestIdentityExponents(t *testing.T) {
	for _, c := range []struct {
		what         string
		f, l         string
		powers       []int
		cofactors, r string
		want         bool
	}{
		{"a power", "x2", "x1^100*x2-1", numbers(100), "x1^9900", "x1^9900", true},
		{"a power", "0", "x1^100*x2-1", numbers(100), "0", "0", true},
		{"a power", "0", "x1^101*x2-1", numbers(100), "0", "0", false},
		{"a power", "0", "x1^5001*x2-1", numbers(2), "0", "0", false},
		{"a power, of the first one", "0", "x1^101*x2-1 x3", numbers(100, 1), "0 0", "0", false},
		{"a power, of the last one", "0", "x1 x3^10000*x4+x4", numbers(1, 2), "0 0", "0", false},
		{"a power that is not asked for", "x2", "x1^10000*x2-1", numbers(0), "0", "x2", true},
		{"powers together", "0", "x1^50*x2-1 x1^50*x3-1", numbers(100, 100), "0 0", "0", true},
		{"powers together", "0", "x1^50*x2-1 x1^51*x3-1", numbers(100, 100), "0 0", "0", false},
		{"powers together", "0", "x1^6000*x2-1 x1^4001*x3-1", numbers(1, 1), "0 0", "0", false},
		{"with f", "x1^5000", "x1^5000*x2-1", numbers(1), "0", "x1^10000", true},
		{"with f", "x1^5001", "x1^5000*x2-1", numbers(1), "0", "x1^10000", false},
		{"with f, not in the lead", "x3+x1^5001", "x2+x1^5000*x3", numbers(1), "0", "x1^5000*x3", false},
		{"with a cofactor", "x2", "x2-x1", numbers(1), "1", "x1", true},
		{"with a cofactor", "0", "x1^10000-1 x2-x1", numbers(0, 0), "x2 0", "x2-x1^10000*x2", true},
		{"with a cofactor", "0", "x2^5000 x2^5000", numbers(0, 0), "x2^5000 -x2^5000", "0", true},
		{"with a cofactor, which falls away", "0", "x2^5000 x2^5000", numbers(0, 0), "x2^5001 -x2^5001", "0", false},
		{"with a cofactor, which falls away", "0", "x2^5000+x3 -x2^5000-x3", numbers(0, 0), "x2^5001+x1 x2^5001+x1", "0", false},
		{"with a cofactor, of the last one", "0", "x1 x200^10000+1", numbers(0, 0), "0 x200", "0", false},
	} {
		held(t, c.what, task{read(c.f), reads(c.l)}, of(c.powers, c.cofactors, c.r), c.want)
	}
}

// P16.3: of what Rest tells; and when one thing of it is another one.
func TestIdentityChanged(t *testing.T) {
	next := source()
	changed := 0
	for _, w := range lots(600) {
		m, _ := meter.New(api.Limits{Fuel: 9, Limbs: 99, Terms: 99})
		d, e := chain.Rest(m, w.f, w.l)
		if e != api.OK {
			continue
		}
		held(t, "as told", w, d, true)
		other := lot(next, 2, 4, 1)
		if len(other) == 0 {
			other = read("1")
		}
		changed++
		sum, _ := poly.Add(d.Rest, other)
		held(t, "another rest", w, api.Division{Powers: d.Powers, Cofactors: d.Cofactors, Rest: sum}, false)
		sum, _ = poly.Add(w.f, other)
		held(t, "another f", task{sum, w.l}, d, false)
		for k, g := range w.l {
			by, powers := slices.Clone(d.Cofactors), slices.Clone(d.Powers)
			by[k], _ = poly.Add(by[k], other)
			held(t, "another cofactor", w, api.Division{Powers: powers, Cofactors: by, Rest: d.Rest}, false)
			powers[k]++
			initial := view.Initial(g)
			held(t, "another power", w, api.Division{Powers: powers, Cofactors: d.Cofactors, Rest: d.Rest}, len(w.f) == 0 || poly.Same(initial, read("1")))
			rest, _ := poly.Times(d.Rest, initial)
			for j := range by {
				by[j], _ = poly.Times(d.Cofactors[j], initial)
			}
			held(t, "a power more on both sides", w, api.Division{Powers: powers, Cofactors: by, Rest: rest}, true)
		}
	}
	if changed < 400 {
		t.Errorf("only %d were changed", changed)
	}
}

// P16.3: many that have few polynomials, most of which are no identities, against the sums worked out product by product.
func TestIdentityMany(t *testing.T) {
	few := reads("0 1 -1 2 x1 -x1 x1+1 x2 2*x2 x1*x2")
	one := poly.Number(whole.Of(1))
	found := 0
	for _, f := range few {
		for _, g := range few {
			for _, cofactor := range few {
				for _, r := range few {
					for n := range 3 {
						left := one
						for range n {
							left, _ = poly.Times(left, view.Initial(g))
						}
						left, _ = poly.Times(left, f)
						right, _ := poly.Times(g, cofactor)
						right, _ = poly.Add(right, r)
						want := poly.Same(left, right)
						held(t, "any", task{f, []api.Poly{g}}, api.Division{Powers: numbers(n), Cofactors: []api.Poly{cofactor}, Rest: r}, want)
						if want {
							found++
						}
					}
				}
			}
		}
	}
	if found < 500 {
		t.Errorf("only %d are identities", found)
	}
}
