package value_test

import (
	"math/big"
	"regexp"
	"slices"
	"strconv"
	"strings"
	"testing"

	"porism/api"
	"porism/poly"
	"porism/value"
	"porism/whole"
)

// wantText tells the text of one that may be, the tests' own way.
func wantText(p api.Poly) string {
	if len(p) == 0 {
		return "0"
	}
	s := ""
	for _, t := range p {
		n := number(t.C)
		one := "+" + n.String()
		if n.Sign() < 0 {
			one = n.String()
		}
		for _, w := range t.M {
			one += "*x" + strconv.Itoa(w.Var)
			if w.Exp > 1 {
				one += "^" + strconv.Itoa(w.Exp)
			}
		}
		if n.IsInt64() && (n.Int64() == 1 || n.Int64() == -1) {
			one = strings.Replace(one, "1*", "", 1)
		}
		s += one
	}
	return strings.TrimPrefix(s, "+")
}

// read fails unless Parse tells that polynomial.
func read(t *testing.T, s string, want api.Poly) {
	t.Helper()
	p, e := value.Parse(s)
	if e != api.OK || !poly.Same(p, want) {
		t.Errorf("Parse(%.60q) of %d bytes: error %d, %s want %s", s, len(s), e, short(p), short(want))
	}
}

// refused fails unless Parse tells the error alone.
func refused(t *testing.T, s string, want api.Errno) {
	t.Helper()
	p, e := value.Parse(s)
	if e != want || len(p) != 0 {
		t.Errorf("Parse(%.60q) of %d bytes: error %d, want %d, with %s", s, len(s), e, want, short(p))
	}
}

// byHand are texts with their polynomials.
func byHand() map[string]api.Poly {
	return map[string]api.Poly{
		"0":                                  nil,
		"1":                                  row(term(1)),
		"-1":                                 row(term(-1)),
		"10":                                 row(term(10)),
		"-4294967296":                        row(term(-1 << 32)),
		"x1":                                 row(term(1, 1, 1)),
		"-x1":                                row(term(-1, 1, 1)),
		"11*x1":                              row(term(11, 1, 1)),
		"-10*x10":                            row(term(-10, 10, 1)),
		"x200^10000":                         row(term(1, vars, most)),
		"-2*x1^10":                           row(term(-2, 1, 10)),
		"x1*x2":                              row(term(1, 1, 1, 2, 1)),
		"x1+1":                               sum(term(1, 1, 1), term(1)),
		"x1-1":                               sum(term(1, 1, 1), term(-1)),
		"-x1-1":                              sum(term(-1, 1, 1), term(-1)),
		"-x1+10":                             sum(term(-1, 1, 1), term(10)),
		"x2-x1":                              sum(term(1, 2, 1), term(-1, 1, 1)),
		"x1*x2^2-2*x1+1":                     sum(term(1, 1, 1, 2, 2), term(-2, 1, 1), term(1)),
		"x10+x9-x1^11":                       sum(term(1, 10, 1), term(1, 9, 1), term(-1, 1, 11)),
		"-3*x1^2*x3+x1*x3-x3+x2":             sum(term(-3, 1, 2, 3, 1), term(1, 1, 1, 3, 1), term(-1, 3, 1), term(1, 2, 1)),
		"x2^2+x1^10000*x2+x2+x1^9999":        sum(term(1, 2, 2), term(1, 1, most, 2, 1), term(1, 2, 1), term(1, 1, most-1)),
		"-12345678901234567890*x2*x3^2+x1-7": sum(api.Term{C: asInt(new(big.Int).Neg(new(big.Int).SetUint64(12345678901234567890))), M: of(2, 1, 3, 2)}, term(1, 1, 1), term(-7)),
	}
}

// P10.3
func TestTexts(t *testing.T) {
	for s, p := range byHand() {
		if got := value.Text(p); got != s {
			t.Errorf("Text: %q, want %q", got, s)
		}
		read(t, s, p)
	}
}

// P10.3: each text is read again, as that of one polynomial.
func TestReadAgain(t *testing.T) {
	texts := map[string]api.Poly{}
	for _, p := range slices.Concat(edges(), high(), some(2000, 12), some(30, 90)) {
		s := value.Text(p)
		if want := wantText(p); s != want {
			t.Errorf("Text: %q, want %q", s, want)
		}
		read(t, s, p)
		if other, ok := texts[s]; ok && !poly.Same(p, other) {
			t.Errorf("%q is the text of two", s)
		}
		texts[s] = p
	}
	for v := 1; v <= vars; v++ {
		for _, exp := range []int{1, 2, 9, 10, 99, 100, most - 1, most} {
			p := row(term(-1, v, exp), term(2))
			if got := value.Text(p); got != wantText(p) {
				t.Errorf("Text: %q, want %q", got, wantText(p))
			}
			read(t, wantText(p), p)
		}
	}
}

// P10.3: one that may not be has no text, not even where what is wrong would not be seen.
func TestTextOfWrong(t *testing.T) {
	for _, bad := range slices.Concat(wrong(), []api.Poly{{{C: whole.Of(0)}}, {{C: api.Int{Mag: []uint32{7, 0}}}}, {term(1, 1, 1), {C: api.Int{Neg: true}}}}) {
		if s := value.Text(bad); s != "" {
			t.Errorf("Text of %s: %q", short(bad), s)
		}
	}
}

// P10.3: texts that are of no polynomial.
func TestParseRefused(t *testing.T) {
	for _, s := range []string{
		"", "+", "-", "*", "^", "x", "+0", "-0", "00", "01", "-01", "+1", "--1", "-+1", "+-1", "1-", "1+", "1*", "1^", "1x1", "2x1", "2^3", "2*3", "2*3*x1", "x1*2", "x1*2*x2", "x1x2", "x1 x2",
		"+x1", "+2*x1", "1*x1", "-1*x1", "0*x1", "-0*x1", "00*x1", "02*x1", "-02*x1", "x", "-x", "x+1", "x*x1", "x^2", "x-1", "x01", "x001", "x0", "x00", "-x0", "x201", "x200^10001", "x1^0", "x1^1", "x1^-1", "x1^+2", "x1^02", "x1^", "x1^x1", "x1^2^2", "x1^^2", "x1**x2", "x1*", "*x1", "x1*-x2", "x1--1", "x1+-1", "x1-+1", "x1++1", "x1-", "x1+",
		"x1+x2", "1+x1", "x1^2+x2", "x1+x1^2", "x2+x1*x2", "x1*x2+x2^2", "x9+x10", "x1+x1", "x1-x1", "1+1", "1-1", "x1+1+1", "2*x1+3*x1", "x2+1+x1", "x1+0", "0+x1", "x1-0", "0-1", "0+0", "x1+0*x2", "x2+0*x1",
		"x1*x1", "x2*x1", "x1*x2*x1", "x1*x2*x2", "x1^2*x1", "x3*x1*x2", "x1*x3*x2", "x1+1*x2", "x2+1*x1", "x2-1*x1",
		" x1", "x1 ", "x 1", "x1\n", "x1 +1", "x1+ 1", "\tx1", "- x1", "x1 * x2", "2 *x1", "x1^ 2", "1 0", "X1", "y1", "x1.", "x1,x2", "(x1)", "x_1", "x1**2", "x1/2", "1/2", "1.5", "1e3", "0x1", "x0x1", "x1=0", "nil", "NaN",
		"x-1", "x+1", "x1^-2", "-", "--x1", "x1\x00", "\x00", "x\x001", "\xff", "x1\xff", "x\u0661", "\u0661", "\u2212x1", "x1\u00b7x2", "x1\u00d72", "x\u00b2", "x1\u00b2",
		"x4294967297", "x18446744073709551617", "x1^4294967298", "x1^18446744073709551618", "x340282366920938463463374607431768211457", "x1^340282366920938463463374607431768211458", "x9223372036854775808", "x1^9223372036854775809", "x-18446744073709551615",
		"x1^" + strings.Repeat("9", 60000), "x" + strings.Repeat("1", 60000), "0" + strings.Repeat("1", 2000), strings.Repeat("0", 3000), "x1+" + strings.Repeat("0", 3000), "-" + strings.Repeat("0", 30000),
	} {
		refused(t, s, api.ErrForm)
	}
	for v := range 2000 {
		s := "x" + strconv.Itoa(v)
		if v >= 1 && v <= vars {
			read(t, s, row(term(1, v, 1)))
		} else {
			refused(t, s, api.ErrForm)
		}
	}
	for exp := range 3 * most {
		s := "x1^" + strconv.Itoa(exp)
		if exp >= 2 && exp <= most {
			read(t, s, row(term(1, 1, exp)))
		} else {
			refused(t, s, api.ErrForm)
		}
	}
}

const (
	numeral = "[1-9][0-9]*"
	factor  = "x" + numeral + `(?:\^` + numeral + ")?"
	summand = "(?:" + numeral + "|(?:" + numeral + `\*)?` + factor + `(?:\*` + factor + ")*)"
)

var (
	polynomial = regexp.MustCompile("^-?" + summand + "(?:[+-]" + summand + ")*$")
	factors    = regexp.MustCompile(`x([0-9]+)(?:\^([0-9]+))?`)
)

// exponents tells those of all variables in a text of powers, or that one may not be.
func exponents(s string) (x [vars + 1]int, ok bool) {
	last := 0
	for _, m := range factors.FindAllStringSubmatch(s, -1) {
		v, e := new(big.Int), big.NewInt(1)
		v.SetString(m[1], 10)
		if m[2] != "" {
			e.SetString(m[2], 10)
		}
		if m[2] == "1" || !v.IsInt64() || !e.IsInt64() || v.Int64() > vars || e.Int64() > most || int(v.Int64()) <= last {
			return x, false
		}
		last = int(v.Int64())
		x[last] = int(e.Int64())
	}
	return x, true
}

// isText tells the tests' own way whether a text is some polynomial's.
func isText(s string) bool {
	if s == "0" {
		return true
	}
	if !polynomial.MatchString(s) {
		return false
	}
	var above []int
	for _, one := range strings.FieldsFunc(s, func(r rune) bool { return r == '+' || r == '-' }) {
		x, ok := exponents(one)
		if !ok || strings.HasPrefix(one, "1*") {
			return false
		}
		here := slices.Clone(x[:])
		slices.Reverse(here) // the greatest variable tells first
		if above != nil && slices.Compare(above, here) <= 0 {
			return false
		}
		above = here
	}
	return true
}

// judged fails unless Parse takes just what is some polynomial's text, and tells one of that text.
func judged(t *testing.T, s string) {
	t.Helper()
	if !isText(s) {
		refused(t, s, api.ErrForm)
		return
	}
	p, e := value.Parse(s)
	if e != api.OK || !poly.May(p) || wantText(p) != s || value.Text(p) != s {
		t.Errorf("Parse(%.60q): error %d, %s", s, e, short(p))
	}
}

// P10.3: of all short texts just those that are some polynomial's are read.
func TestAllShortTexts(t *testing.T) {
	var try func(s string, more int)
	try = func(s string, more int) {
		judged(t, s)
		if more > 0 {
			for _, c := range "x120^*+-" {
				try(s+string(c), more-1)
			}
		}
	}
	try("", 5)
	for _, head := range []string{"x2^2", "x1*x2", "2*x2", "-x1^2", "10*x10^10"} {
		try(head, 3)
	}
}

// P10.3: texts with a byte changed, left away, or put between, at each place.
func TestNearTexts(t *testing.T) {
	list := []string{"x1*x2^2-2*x1+1", "-3*x1^2*x3+x1*x3-x3+x2", "10*x10^10-x9+11", "x200^10000-x199^9999", "-x1", "1", "0", "100"}
	for _, s := range list {
		for at := range len(s) + 1 {
			for _, c := range []byte("x0129*^+- \n.X\x00\xff") {
				judged(t, s[:at]+string([]byte{c})+s[at:])
				if at < len(s) {
					judged(t, s[:at]+string([]byte{c})+s[at+1:])
				}
			}
			if at < len(s) {
				judged(t, s[:at]+s[at+1:])
			}
			judged(t, s[:at])
			judged(t, s[at:])
			judged(t, s[at:]+s[:at])
		}
		for _, other := range list {
			judged(t, s+other)
			judged(t, s+"+"+other)
			judged(t, s+"-"+other)
			judged(t, s+"*"+other)
		}
	}
}

// P10.3: no byte but those of a text stands in one, wherever.
func TestParseOfBytes(t *testing.T) {
	for b := range 256 {
		c := string([]byte{byte(b)})
		for _, s := range []string{c, "x1" + c, "x" + c, "x1" + c + "1", "x2" + c + "x1", "2" + c + "x1", "2*x1" + c + "2", c + "x1", c + "1", "x1*x2" + c, "x1+" + c} {
			judged(t, s)
		}
	}
}

// P10.3: numbers that have more digits than layer 5 reads at once; noughts stand within and at the end of them.
func TestLongNumbers(t *testing.T) {
	for _, n := range []int{999, 1000, 1001, 2000, 2001, 19999, 20000, 20001, 21001} {
		for _, s := range []string{strings.Repeat("9", n), "1" + strings.Repeat("0", n-1), strings.Repeat("1234567890", n/10+1)[:n], "7" + strings.Repeat("0", n-2) + "7", "1" + strings.Repeat("0", n/2) + strings.Repeat("5", n-n/2-1)} {
			want, _ := new(big.Int).SetString(s, 10)
			c := asInt(want)
			for text, p := range map[string]api.Poly{
				s:                    row(api.Term{C: c}),
				"-" + s:              row(api.Term{C: whole.Neg(c)}),
				s + "*x3^2":          row(api.Term{C: c, M: of(3, 2)}),
				"x1-" + s:            row(term(1, 1, 1), api.Term{C: whole.Neg(c)}),
				"x2-" + s + "*x1+10": row(term(1, 2, 1), api.Term{C: whole.Neg(c), M: of(1, 1)}, term(10)),
			} {
				read(t, text, p)
				if got := value.Text(p); got != text {
					t.Errorf("Text: %.40q of %d bytes, want %.40q of %d", got, len(got), text, len(text))
				}
			}
			refused(t, "0"+s, api.ErrForm)
			refused(t, "x1+0"+s, api.ErrForm)
			refused(t, s+"x1", api.ErrForm)
		}
	}
}

// P10.3: MaxTold bytes are not too many, one more is; that is told ahead of ErrForm.
func TestParseBounds(t *testing.T) {
	const limit = api.MaxTold
	for _, head := range []string{"", "-", "2*x200^10000+x1-"} {
		s := head + strings.Repeat("9", limit-len(head))
		p, e := value.Parse(s)
		if e != api.OK || value.Text(p) != s {
			t.Errorf("Parse(%.40q) of %d bytes: error %d", s, len(s), e)
		}
		longer, e := poly.Times(p, row(term(10)))
		if e != api.OK {
			t.Fatal(e)
		}
		if text := value.Text(longer); len(text) <= limit || text != wantText(longer) { // Text has no bound
			t.Errorf("Text: %d bytes", len(text))
		} else {
			refused(t, text, api.ErrLong)
		}
		refused(t, s+"9", api.ErrLong)
		refused(t, s[:limit-1]+"+", api.ErrForm)
		refused(t, s[:limit-1]+"x", api.ErrForm)
		refused(t, s+"+", api.ErrLong)
	}
	for _, c := range []string{"0", "-", "+", "x", "*", "^", "1+", "x1+", "\x00", "\xff", " "} {
		refused(t, strings.Repeat(c, limit)[:limit], api.ErrForm)
		refused(t, strings.Repeat(c, limit+1)[:limit+1], api.ErrLong)
		refused(t, strings.Repeat(c, 1<<22), api.ErrLong)
	}
	refused(t, strings.Repeat("\u0661", limit/2+1), api.ErrLong) // fewer letters than MaxTold, but more bytes
}

// P10.3: as many terms, and as many powers, as there may be in a text.
func TestManyTerms(t *testing.T) {
	var l []api.Term
	size := 0
	for exp := most; exp > 1; exp-- {
		one := term(int64(exp%5-2)*2+1, 11, exp)
		size += len(strings.TrimPrefix(wantText(row(one)), "-")) + 1 // each has a sign
		if size > api.MaxTold-8 {
			break
		}
		l = append(l, one)
	}
	s := value.Text(l)
	if len(s) > api.MaxTold || len(s) < api.MaxTold-20 || s != wantText(l) {
		t.Fatal("Text:", len(s))
	}
	read(t, s, l)
	refused(t, s+"+x12", api.ErrForm) // it does not fall
	all := term(1)
	for v := 1; v <= vars; v++ {
		all.M = append(all.M, api.Power{Var: v, Exp: most - v%3})
	}
	read(t, wantText(row(all)), row(all))
	if got := value.Text(row(all)); got != wantText(row(all)) {
		t.Errorf("Text of all variables: %.60q", got)
	}
	refused(t, wantText(row(all))+"*x200", api.ErrForm)
}

// Whatever text is read is told again byte by byte; what is refused is no polynomial's.
func FuzzParse(f *testing.F) {
	for s := range byHand() {
		f.Add(s)
	}
	for _, s := range []string{"", "-0", "x1+x2", "1*x1", "x01", "x1^1", "x1*x1", "2x1", "x201", "x1 ", "\xff"} {
		f.Add(s)
	}
	f.Fuzz(func(t *testing.T, s string) {
		if len(s) > api.MaxTold {
			refused(t, s, api.ErrLong)
			return
		}
		judged(t, s)
	})
}
