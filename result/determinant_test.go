package result

import (
	"math/big"
	"slices"
	"testing"

	"porism/api"
	"porism/poly"
	"porism/value"
	"porism/whole"
)

// read is the polynomial of a text.
func read(s string) api.Poly {
	p, e := value.Parse(s)
	if e != api.OK {
		panic(s)
	}
	return p
}

// square is rows of texts.
func square(l ...[]string) [][]api.Poly {
	rows := make([][]api.Poly, len(l))
	for i, row := range l {
		for _, s := range row {
			rows[i] = append(rows[i], read(s))
		}
	}
	return rows
}

// source tells numbers from 0 on, below some one, that look as if drawn by lot, always the same ones.
func source() func(below int) int {
	seed := uint64(11)
	return func(below int) int {
		seed = seed*6364136223846793005 + 1442695040888963407
		return int(seed>>33) % below
	}
}

// expanded is a determinant by its first row's minors.
func expanded(l [][]api.Poly) api.Poly {
	if len(l) == 0 {
		return read("1")
	}
	var sum api.Poly
	for j, p := range l[0] {
		var below [][]api.Poly
		for _, row := range l[1:] {
			below = append(below, slices.Delete(slices.Clone(row), j, j+1))
		}
		product, _ := poly.Times(p, expanded(below))
		if j%2 == 1 {
			product, _ = poly.Neg(product)
		}
		sum, _ = poly.Add(sum, product)
	}
	return sum
}

// told fails unless the determinant is d, and the rows stay as they are.
func told(t *testing.T, l [][]api.Poly, d api.Poly) {
	t.Helper()
	rows, before := slices.Clone(l), make([][]api.Poly, len(l))
	for i, row := range l {
		for _, p := range row {
			own, _ := poly.Add(p, nil)
			before[i] = append(before[i], own)
		}
	}
	if got, e := determinant(l); e != api.OK || !poly.Same(got, d) {
		t.Errorf("determinant of %d rows: %s, error %d, want %s", len(l), value.Text(got), e, value.Text(d))
	}
	for i, row := range l {
		if !slices.EqualFunc(row, before[i], poly.Same) || len(row) > 0 && &row[0] != &rows[i][0] {
			t.Errorf("the row %d of %d was changed", i, len(l))
		}
	}
}

func TestDeterminantByHand(t *testing.T) {
	told(t, nil, read("1"))
	told(t, square([]string{"x1-3"}), read("x1-3"))
	told(t, square([]string{"0"}), nil)
	told(t, square([]string{"0", "x1"}, []string{"x2", "0"}), read("-x1*x2"))
	told(t, square([]string{"0", "0"}, []string{"x2", "1"}), nil)
	told(t, square([]string{"0", "1"}, []string{"0", "x2"}), nil)
	told(t, square([]string{"0", "1", "0"}, []string{"0", "0", "1"}, []string{"x1", "0", "0"}), read("x1"))
	told(t, square([]string{"0", "0", "1"}, []string{"0", "1", "0"}, []string{"x1", "0", "0"}), read("-x1"))
	told(t, square([]string{"1", "2", "3"}, []string{"4", "5", "6"}, []string{"7", "8", "10"}), read("-3"))
	told(t, square([]string{"1", "2", "3"}, []string{"4", "5", "6"}, []string{"7", "8", "9"}), nil)
}

// entry is 0 or a polynomial by lot.
func entry(next func(below int) int) api.Poly {
	var terms []api.Term
	for range max(0, next(6)-2) {
		t := api.Term{C: whole.Of(int64(next(9) - 4))}
		for v := 1; v <= 2; v++ {
			if e := next(3); e > 0 {
				t.M = append(t.M, api.Power{Var: v, Exp: e})
			}
		}
		terms = append(terms, t)
	}
	p, _ := poly.Of(terms)
	return p
}

// Rows of whatever kind, whichever pivots have a part in them.
func TestDeterminant(t *testing.T) {
	next := source()
	for i := range 600 {
		l := make([][]api.Poly, i%6)
		for j := range l {
			for range l {
				l[j] = append(l[j], entry(next))
			}
		}
		told(t, l, expanded(l))
	}
}

// ofNumbers is a determinant over the rational numbers, by Gauss' way; it works in the rows.
func ofNumbers(l [][]*big.Rat) *big.Rat {
	product := big.NewRat(1, 1)
	for k := range l {
		i := slices.IndexFunc(l[k:], func(row []*big.Rat) bool { return row[k].Sign() != 0 })
		if i < 0 {
			return new(big.Rat)
		}
		if i > 0 {
			l[k], l[k+i] = l[k+i], l[k]
			product.Neg(product)
		}
		product.Mul(product, l[k][k])
		for _, row := range l[k+1:] {
			by := new(big.Rat).Quo(row[k], l[k][k])
			for j := k; by.Sign() != 0 && j < len(l); j++ {
				row[j].Sub(row[j], new(big.Rat).Mul(by, l[k][j]))
			}
		}
	}
	return product
}

// As many rows as there may be, of numbers, of which few or many are 0.
func TestDeterminantOfManyRows(t *testing.T) {
	next := source()
	for i := range 32 {
		size := []int{64, 40, 33, 17}[i%4]
		l, numbers := make([][]api.Poly, size), make([][]*big.Rat, size)
		for j := range l {
			for k := range size {
				n := int64(next(9) + 1)
				if k != (j*7+3)%size {
					n -= 5
				}
				if k != (j*7+3)%size && next(20) > i/2 {
					n = 0
				}
				l[j] = append(l[j], poly.Number(whole.Of(n)))
				numbers[j] = append(numbers[j], big.NewRat(n, 1))
			}
		}
		want := ofNumbers(numbers).Num().String()
		told(t, l, read(want))
	}
}

// Where an exponent is too great: ErrExp, and nothing beside it.
func TestDeterminantRefused(t *testing.T) {
	for _, l := range [][][]api.Poly{
		square([]string{"x1^6000", "0"}, []string{"0", "x1^4001"}),
		square([]string{"x1^6000", "1"}, []string{"1", "x1^4001"}),
		square([]string{"1", "x1^6000", "0"}, []string{"x1^4001", "1", "1"}, []string{"1", "1", "x2"}),
		square([]string{"x1^6000", "1", "x1^6000"}, []string{"x1^6000", "1", "2*x1^6000"}, []string{"x1^6000", "0", "x2+x1^2+x1+5"}), // behind it the rows look as if none had a head
		square([]string{"x2", "0", "0"}, []string{"x1", "x2^5000", "0"}, []string{"1", "1", "x2^5000"}),
	} {
		if d, e := determinant(l); e != api.ErrExp || d != nil {
			t.Errorf("determinant: %s, error %d", value.Text(d), e)
		}
	}
	told(t, square([]string{"x1^6000", "0"}, []string{"0", "x1^4000"}), read("x1^10000"))
}
