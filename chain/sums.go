package chain

import (
	"porism/api"
	"porism/meter"
	"porism/poly"
	"porism/whole"
)

// mostPower is the greatest power that poly.Pow makes, and that an identity may have.
const mostPower = 100

// sums does sums and products by a meter, or by none, and keeps the first error. From there on it does nothing, and tells 0.
type sums struct {
	m *meter.Meter
	e api.Errno
}

// kept tells p, if e is OK and the meter does not refuse it.
func (s *sums) kept(p api.Poly, e api.Errno) api.Poly {
	if e == api.OK {
		s.e = s.m.Keep(p)
	} else {
		s.e = s.m.Refuse(e)
	}
	if s.e != api.OK {
		return nil
	}
	return p
}

func (s *sums) add(p, q api.Poly) api.Poly {
	if s.e != api.OK {
		return nil
	}
	return s.kept(poly.Add(p, q))
}

func (s *sums) times(p, q api.Poly) api.Poly {
	if s.e != api.OK {
		return nil
	}
	return s.kept(poly.Times(p, q))
}

// power tells p to the n-th; the meter is not asked of powers on the way.
func (s *sums) power(p api.Poly, n int) api.Poly {
	if s.e != api.OK {
		return nil
	}
	return s.kept(raised(p, n))
}

// raised tells p to the n-th, n from 0 on: as a division may have more steps than poly.Pow makes powers, those above go by the hundredth power.
func raised(p api.Poly, n int) (api.Poly, api.Errno) {
	if n <= mostPower {
		return poly.Pow(p, n)
	}
	var s sums
	high := s.power(s.power(p, mostPower), n/mostPower)
	all := s.times(high, s.power(p, n%mostPower))
	return all, s.e
}

func one() api.Poly {
	return poly.Number(whole.Of(1))
}

// paired tells what call makes of each of l and what stands at its place in by.
func paired[T any](call func(p api.Poly, by T) api.Poly, l []api.Poly, by []T) []api.Poly {
	made := make([]api.Poly, len(l))
	for k, p := range l {
		made[k] = call(p, by[k])
	}
	return made
}

// joined tells what call makes of p and the first of l, of that and the next one, and so on.
func joined(call func(p, q api.Poly) api.Poly, p api.Poly, l []api.Poly) api.Poly {
	for _, q := range l {
		p = call(p, q)
	}
	return p
}
