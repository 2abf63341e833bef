package content

import (
	"porism/api"
	"porism/poly"
	"porism/pseudo"
	"porism/view"
)

// rests are two that follow each other, as each is divided by the next one in v.
//
// They go by subresultants: of each rest that factor is taken out of which is known ahead that all its coefficients have it. So they grow slowly, and none of their contents is asked for.
type rests struct {
	v              int
	f, g           api.Poly
	before, height api.Poly
}

// first tells p and q, the one of the greater degree ahead.
func first(p, q api.Poly, v int) rests {
	if view.Degree(p, v) < view.Degree(q, v) {
		p, q = q, p
	}
	return rests{v: v, f: p, g: q, before: one(), height: one()}
}

// head tells the coefficient of v to p's degree in it.
func head(p api.Poly, v int) api.Poly {
	return view.Coefficient(p, v, view.Degree(p, v))
}

// power tells the n-th power, n from 0 on; layer 8 has none for an n as great as a degree may be.
func (w *work) power(p api.Poly, n int) api.Poly {
	product := one()
	for ; n > 0 && w.e == api.OK; n /= 2 {
		if n%2 == 1 {
			product = w.times(product, p)
		}
		if n > 1 {
			p = w.times(p, p)
		}
	}
	return product
}

// next goes on by a rest. One without v stays as it is left: of that no more is asked.
func (w *work) next(x rests) rests {
	r, steps, e := pseudo.Rest(nil, x.f, x.g, x.v)
	w.note(e)
	if view.Degree(r, x.v) == 0 {
		return rests{v: x.v, f: x.g, g: r}
	}
	lead, gap := head(x.g, x.v), view.Degree(x.f, x.v)-view.Degree(x.g, x.v)
	var own work
	full := own.times(r, own.power(lead, gap+1-steps)) // as if no step had been passed by
	light := own.over(full, own.times(x.before, own.power(x.height, gap)))
	height := x.height
	if gap > 0 {
		height = own.over(own.power(lead, gap), own.power(height, gap-1))
	}
	if own.e != api.OK { // an exponent was too great, which the rest itself has no part in: it begins anew with that
		return first(x.g, r, x.v)
	}
	return rests{v: x.v, f: x.g, g: light, before: lead, height: height}
}

// asDivisor tells the primitive part of g in v, and whether it divides p and q; shared is what the head of each common divisor of these divides.
//
// If g is a common divisor but for factors without v, its head has no more to do with it than shared has. So most of these factors are found in the head alone, and need not be asked of all coefficients.
func (w *work) asDivisor(g, shared, p, q api.Poly, v int) (api.Poly, bool) {
	lead := head(g, v)
	light, e := poly.Over(g, w.over(lead, w.gcd(lead, shared)))
	if e != api.OK {
		return nil, false
	}
	_, part := w.parted(light, v)
	_, e = poly.Over(p, part)
	_, f := poly.Over(q, part)
	return part, e == api.OK && f == api.OK
}

// ofPrimitive tells the greatest common divisor of two that are primitive in v, of degree 1 or more in it; no common divisor's degree is above most.
//
// Each rest is tried, as far as its degree allows: that it is the last one would else be seen by the next one's being 0, after the greatest division of all.
func (w *work) ofPrimitive(p, q api.Poly, v, most int) api.Poly {
	shared := w.gcd(head(p, v), head(q, v))
	for x := first(p, q, v); w.e == api.OK && view.Degree(x.g, v) > 0; x = w.next(x) {
		if view.Degree(x.g, v) > most {
			continue
		}
		if part, found := w.asDivisor(x.g, shared, p, q, v); found {
			return part
		}
	}
	return one()
}
