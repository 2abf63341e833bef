package result

import (
	"math/bits"

	"porism/api"
	"porism/poly"
	"porism/whole"
)

// elimination is a determinant on its way: column by column one row with a head there, the pivot, takes the heads of the rows below it away.
//
// It needs no fractions, as each entry is a minor (this is Bareiss' way): of its own row, and of the pivots that had a part in it, which are those that took a head away in it, or in one that had a part. Of two rows put together that is so after a division: by the minor of the pivots that had a part in both.
//
// Bareiss himself lets all pivots have a part in each row. But most rows of a resultant are without a head for long; they stay as they are, and their entries stay small.
type elimination struct {
	rows   [][]api.Poly
	parts  []uint64            // of each row the pivots that had a part in it, by bits
	minors map[uint64]api.Poly // of pivots, by bits, those that were asked for
	isOdd  bool                // whether rows changed places an odd number of times
	e      api.Errno           // the first error; what is worked out behind it is of no use
}

// begun copies the lists, as they are worked in. The polynomials in them stay as they are.
func begun(l [][]api.Poly) *elimination {
	rows := make([][]api.Poly, len(l))
	for i := range rows {
		rows[i] = make([]api.Poly, len(l[i]))
		copy(rows[i], l[i])
	}
	minors := map[uint64]api.Poly{0: poly.Number(whole.Of(1))}
	return &elimination{rows: rows, parts: make([]uint64, len(l)), minors: minors}
}

func (x *elimination) times(p, q api.Poly) api.Poly {
	product, e := poly.Times(p, q)
	if x.e == api.OK {
		x.e = e
	}
	return product
}

// over tells p over q, of which it must be known that there is one.
func over(p, q api.Poly) api.Poly {
	quotient, _ := poly.Over(p, q)
	return quotient
}

// minor tells that of pivots, in their own columns; all that had a part in one of them must be among them.
func (x *elimination) minor(pivots uint64) api.Poly {
	if m, known := x.minors[pivots]; known {
		return m
	}
	last := bits.Len64(pivots) - 1
	others := pivots &^ (1 << last)
	m := x.rows[last][last]
	if x.parts[last] != others {
		m = over(x.times(m, x.minor(others)), x.minor(x.parts[last]))
	}
	x.minors[pivots] = m
	return m
}

// terms tells how many there are in a row.
func terms(row []api.Poly) int {
	n := 0
	for _, p := range row {
		n += len(p)
	}
	return n
}

// choose tells which of the rows from k on that have a head in the column k has the fewest terms; false, if none has a head.
func (x *elimination) choose(k int) (place int, found bool) {
	fewest := 0
	for i := k; i < len(x.rows); i++ {
		n := terms(x.rows[i][k:])
		if len(x.rows[i][k]) > 0 && (!found || n < fewest) {
			place, fewest, found = i, n, true
		}
	}
	return place, found
}

// raise makes the row at the place the row k.
func (x *elimination) raise(place, k int) {
	if place == k {
		return
	}
	x.rows[k], x.rows[place] = x.rows[place], x.rows[k]
	x.parts[k], x.parts[place] = x.parts[place], x.parts[k]
	x.isOdd = !x.isOdd
}

// clear takes the heads in the column k away, by the row k. They are not asked for any more, and so not made 0.
func (x *elimination) clear(k int) {
	pivot := x.rows[k]
rows:
	for i := k + 1; i < len(x.rows); i++ {
		row := x.rows[i]
		head := row[k]
		if len(head) == 0 {
			continue rows
		}
		surplus := x.minor(x.parts[i] & x.parts[k])
		for j := k + 1; j < len(row); j++ {
			both, _ := poly.Sub(x.times(pivot[k], row[j]), x.times(head, pivot[j]))
			if x.e != api.OK {
				break rows
			}
			row[j] = over(both, surplus)
		}
		x.parts[i] |= x.parts[k] | 1<<k
	}
}

// determinant tells that of rows as long as they are many, at most 64; ErrExp, if an exponent on the way is too great.
func determinant(l [][]api.Poly) (api.Poly, api.Errno) {
	x := begun(l)
	for k := range x.rows {
		place, found := x.choose(k)
		if !found {
			return nil, api.OK
		}
		x.raise(place, k)
		if x.clear(k); x.e != api.OK {
			return nil, x.e
		}
	}
	d := x.minor(1<<len(l) - 1)
	switch {
	case x.e != api.OK:
		return nil, x.e
	case x.isOdd:
		return poly.Neg(d)
	}
	return d, api.OK
}
