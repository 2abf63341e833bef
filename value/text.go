package value

import (
	"strconv"
	"strings"

	"porism/api"
	"porism/digits"
	"porism/poly"
	"porism/whole"
)

// zero and one are the texts of these numbers.
const (
	zero = "0"
	one  = "1"
)

// The signs of a text.
const (
	addSign   = "+"
	subSign   = "-"
	timesSign = "*"
	powerSign = "^"
	variable  = "x"
)

// Text tells the text of p; nothing, if p may not be.
func Text(p api.Poly) string {
	if !poly.May(p) {
		return ""
	}
	if len(p) == 0 {
		return zero
	}
	var text strings.Builder
	for i, t := range p {
		if t.C.Neg {
			text.WriteString(subSign)
		} else if i > 0 {
			text.WriteString(addSign)
		}
		text.WriteString(strings.Join(factors(t), timesSign))
	}
	return text.String()
}

// factors tells the texts of the number, without its sign, and of the powers.
func factors(t api.Term) []string {
	var l []string
	if number := digits.Text(api.Int{Mag: t.C.Mag}); number != one || len(t.M) == 0 {
		l = append(l, number)
	}
	for _, w := range t.M {
		l = append(l, powerText(w))
	}
	return l
}

func powerText(w api.Power) string {
	text := variable + strconv.Itoa(w.Var)
	if w.Exp == 1 {
		return text
	}
	return text + powerSign + strconv.Itoa(w.Exp)
}

// Parse tells the polynomial whose text it is; ErrLong, if it has more than MaxTold bytes; ErrForm, if it is no polynomial's text.
func Parse(s string) (p api.Poly, e api.Errno) {
	if len(s) > api.MaxTold {
		return nil, api.ErrLong
	}
	if s == zero { // in no other text the number 0 stands
		return nil, api.OK
	}
	defer func() {
		if recover() != nil { // the reader gave up
			p, e = nil, api.ErrForm
		}
	}()
	r := reader{left: s}
	return r.poly(), api.OK
}

// reader reads a text from its first byte on; where it is no polynomial's, it gives up.
type reader struct {
	left string
}

// giveUp ends the reading; it is caught at the face.
func (r *reader) giveUp() {
	panic(api.ErrForm)
}

// takes tells whether that is next, and goes behind it then.
func (r *reader) takes(s string) bool {
	left, found := strings.CutPrefix(r.left, s)
	r.left = left
	return found
}

// digits tells those that are next; there must be some, and no noughts ahead of others.
func (r *reader) digits() string {
	left := strings.TrimLeft(r.left, "0123456789")
	d := r.left[:len(r.left)-len(left)]
	if d == "" || d != zero && strings.HasPrefix(d, zero) {
		r.giveUp()
	}
	r.left = left
	return d
}

// small tells the number that is next.
func (r *reader) small() int {
	n, err := strconv.Atoi(r.digits())
	if err != nil { // there are too many digits
		r.giveUp()
	}
	return n
}

func (r *reader) power() api.Power {
	if !r.takes(variable) {
		r.giveUp()
	}
	w := api.Power{Var: r.small(), Exp: 1}
	if r.takes(powerSign) {
		w.Exp = r.small()
		if w.Exp == 1 { // it is not written
			r.giveUp()
		}
	}
	return w
}

// term tells the one that is next, without its sign.
func (r *reader) term() api.Term {
	t := api.Term{C: whole.Of(1)}
	if !strings.HasPrefix(r.left, variable) {
		d := r.digits()
		t.C = number(d)
		if !r.takes(timesSign) {
			return t
		}
		if d == one { // it is not written ahead of powers
			r.giveUp()
		}
	}
	t.M = append(t.M, r.power())
	for r.takes(timesSign) {
		t.M = append(t.M, r.power())
	}
	return t
}

// poly tells the one whose text is all that is left.
func (r *reader) poly() api.Poly {
	var p api.Poly
	for len(p) == 0 || r.left != "" {
		neg := r.takes(subSign)
		if !neg && len(p) > 0 && !r.takes(addSign) {
			r.giveUp()
		}
		t := r.term()
		if neg {
			t.C = whole.Neg(t.C)
		}
		p = append(p, t)
	}
	if !poly.May(p) { // a number is 0, a variable or an exponent is none, or something stands in the wrong order
		r.giveUp()
	}
	return p
}

// number tells that of digits, which may be more than layer 5 reads at once. Each piece is read with a 1 ahead, as it may begin with noughts.
func number(d string) api.Int {
	var n api.Int
	for d != "" {
		size := min(len(d), api.MaxPow)
		unit, _ := whole.Pow(whole.Of(10), size)
		piece, _ := digits.Parse(one + d[:size])
		n = whole.Add(whole.Mul(whole.Sub(n, whole.Of(1)), unit), piece)
		d = d[size:]
	}
	return n
}
