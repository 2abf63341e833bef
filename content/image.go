package content

import (
	"slices"

	"porism/api"
	"porism/mono"
)

// prime is so small that the product of two numbers below it, and a third one, fit into a word.
//
// By it greatest common divisors are bounded ahead of the work: two polynomials are looked at modulo the prime, with numbers in the place of all variables but one. What divides both divides both images, and has the same degree there, unless its head, and so both heads, become 0. Most often that tells at once that nothing is shared.
const prime = 1<<31 - 1

// point tells the number that stands for v, 1 to prime - 1. It is mixed: numbers in a simple relation would be zeros of simple polynomials.
func point(v int) uint64 {
	x := uint64(v) * 0x9e3779b97f4a7c15
	x = (x ^ x>>30) * 0xbf58476d1ce4e5b9
	x = (x ^ x>>27) * 0x94d049bb133111eb
	return x>>32%(prime-1) + 1
}

// powerOf tells x to the n, n from 0 on.
func powerOf(x uint64, n int) uint64 {
	product := uint64(1)
	for ; n > 0; n /= 2 {
		if n%2 == 1 {
			product = product * x % prime
		}
		x = x * x % prime
	}
	return product
}

// residue tells x modulo the prime.
func residue(x api.Int) uint64 {
	r := uint64(0)
	for _, limb := range slices.Backward(x.Mag) {
		r = (r<<32 | uint64(limb)) % prime
	}
	if x.Neg {
		return (prime - r) % prime
	}
	return r
}

// worths tells what each term of p is at the points.
func worths(p api.Poly) []uint64 {
	l := make([]uint64, len(p))
	for i, t := range p {
		l[i] = residue(t.C)
		for _, w := range t.M {
			l[i] = l[i] * powerOf(point(w.Var), w.Exp) % prime
		}
	}
	return l
}

// degrees tells of each variable the greatest exponent in p, 0 where there is none.
func degrees(p api.Poly) []int {
	l := make([]int, api.MaxVars+1)
	for _, t := range p {
		for _, w := range t.M {
			l[w.Var] = max(l[w.Var], w.Exp)
		}
	}
	return l
}

// image tells the numbers of v^0, v^1, up to v^degree in p, at the points, of which worths are the terms'. In v's place stands v times its point, which changes no degree: so the worths serve for all variables.
func image(p api.Poly, worths []uint64, v, degree int) []uint64 {
	l := make([]uint64, degree+1)
	for i, t := range p {
		e := mono.Degree(t.M, v)
		l[e] = (l[e] + worths[i]) % prime
	}
	return l
}

// trimmed tells l without the noughts at its end.
func trimmed(l []uint64) []uint64 {
	for len(l) > 0 && l[len(l)-1] == 0 {
		l = l[:len(l)-1]
	}
	return l
}

// rest tells that of a by b, both trimmed, b not empty; it works in a's memory.
func rest(a, b []uint64) []uint64 {
	inverse := powerOf(b[len(b)-1], prime-2)
	for len(a) >= len(b) {
		by := prime - a[len(a)-1]*inverse%prime
		moved := a[len(a)-len(b):]
		for i, x := range b {
			moved[i] = (moved[i] + by*x) % prime
		}
		a = trimmed(a)
	}
	return a
}

// bound tells a degree that no common divisor exceeds, by both images in a variable; it works in their memory.
func bound(a, b []uint64) int {
	least := min(len(a), len(b)) - 1
	f, g := trimmed(a), trimmed(b)
	if len(f) < len(a) && len(g) < len(b) { // both heads became 0
		return least
	}
	for len(g) > 0 {
		f, g = g, rest(f, g)
	}
	return min(least, len(f)-1)
}

// roomOf tells of each variable a degree that no common divisor of p and q exceeds, and in which variable these have to fall by the fewest degrees to reach it, of those where it is not 0; 0, if there are none. Neither may be 0.
func roomOf(p, q api.Poly) (most []int, easiest int) {
	all, others := degrees(p), degrees(q)
	f, g := worths(p), worths(q)
	most = make([]int, len(all))
	fewest := 0
	for v := range all {
		if all[v] == 0 || others[v] == 0 {
			continue
		}
		most[v] = bound(image(p, f, v, all[v]), image(q, g, v, others[v]))
		if fall := all[v] + others[v] - 2*most[v]; most[v] > 0 && (easiest == 0 || fall < fewest) {
			easiest, fewest = v, fall
		}
	}
	return most, easiest
}
