package ratio_test

import (
	"math"
	"math/big"
	"slices"
	"strings"
	"testing"

	"porism/api"
	"porism/ratio"
)

const top = math.MaxUint32

// number tells in the library's numbers what an Int stands for.
func number(x api.Int) *big.Int {
	bytes := make([]byte, 0, 4*len(x.Mag))
	for i := len(x.Mag) - 1; i >= 0; i-- {
		limb := x.Mag[i]
		bytes = append(bytes, byte(limb>>24), byte(limb>>16), byte(limb>>8), byte(limb))
	}
	n := new(big.Int).SetBytes(bytes)
	if x.Neg {
		n.Neg(n)
	}
	return n
}

// broken tells in the library's numbers what a Rat stands for: the tests' other way to work things out.
func broken(x api.Rat) *big.Rat {
	num, den := number(x.Num), number(x.Den)
	if den.Sign() == 0 {
		den.SetInt64(1)
	}
	return new(big.Rat).SetFrac(num, den)
}

// asInt tells the canonical Int of one of the library's numbers.
func asInt(n *big.Int) api.Int {
	x := api.Int{Neg: n.Sign() < 0}
	bytes := n.Bytes()
	for at := len(bytes); at > 0; at -= 4 {
		limb := uint32(0)
		for _, b := range bytes[max(at-4, 0):at] {
			limb = limb<<8 | uint32(b)
		}
		x.Mag = append(x.Mag, limb)
	}
	return x
}

// of tells the Int of a small number.
func of(n int64) api.Int {
	return asInt(big.NewInt(n))
}

// asRat tells the canonical Rat of one of the library's numbers.
func asRat(q *big.Rat) api.Rat {
	return api.Rat{Num: asInt(q.Num()), Den: asInt(q.Denom())}
}

// same tells whether both are the same Rat, limb by limb.
func same(x, y api.Rat) bool {
	return x.Num.Neg == y.Num.Neg && slices.Equal(x.Num.Mag, y.Num.Mag) &&
		x.Den.Neg == y.Den.Neg && slices.Equal(x.Den.Mag, y.Den.Mag)
}

// told fails unless got is the canonical Rat of want.
func told(t *testing.T, what string, got api.Rat, want *big.Rat) {
	t.Helper()
	if !same(got, asRat(want)) {
		t.Errorf("%s: %v, want %v", what, got, want)
	}
}

// nothing fails unless the error is told alone.
func nothing(t *testing.T, what string, x api.Rat, got, want api.Errno) {
	t.Helper()
	if got != want {
		t.Errorf("%s: error %d, want %d", what, got, want)
	}
	if !same(x, api.Rat{}) {
		t.Errorf("%s: %v beside an error", what, x)
	}
}

// fine fails, if an error is told.
func fine(t *testing.T, what string, e api.Errno) {
	t.Helper()
	if e != api.OK {
		t.Errorf("%s: error %d", what, e)
	}
}

// noughts are the ways to write 0, the first two of them canonical.
func noughts() []api.Int {
	return []api.Int{{}, {Mag: []uint32{}}, {Neg: true}, {Neg: true, Mag: []uint32{}}, {Mag: []uint32{0}}, {Neg: true, Mag: []uint32{0}}, {Mag: []uint32{0, 0, 0}}, {Neg: true, Mag: []uint32{0, 0, 0}}}
}

// ints are whole numbers at which signs and lengths change, with each sign, and noughts; some are not canonical.
func ints() []api.Int {
	list := noughts()
	for _, mag := range [][]uint32{
		{1}, {1, 0, 0}, {2}, {3}, {5, 0}, {6}, {12}, {1 << 31}, {top}, {top, 0},
		{0, 1}, {1, 1}, {top, 1<<31 - 1}, {0, 1 << 31, 0}, {top, top},
		{0, 0, 1}, {0, 1, 1}, {top, top, top}, {0, 0, 12, 0}, {6, 0, 0, 6},
	} {
		list = append(list, api.Int{Mag: mag}, api.Int{Neg: true, Mag: mag})
	}
	return list
}

// edges are all of these over each of these.
func edges() []api.Rat {
	var list []api.Rat
	for _, num := range ints() {
		for _, den := range ints() {
			list = append(list, api.Rat{Num: num, Den: den})
		}
	}
	return list
}

// source tells numbers by a rule: the same ones at each run.
func source() func() uint32 {
	seed := uint64(0x9e3779b97f4a7c15)
	return func() uint32 {
		seed ^= seed << 13
		seed ^= seed >> 7
		seed ^= seed << 17
		return uint32(seed >> 16)
	}
}

// made is a whole number of at most some limbs, with many noughts and full ones; it may not be canonical.
func made(limbs int, next func() uint32) api.Int {
	x := api.Int{Neg: next()%2 == 0, Mag: make([]uint32, int(next())%(limbs+1))}
	for i := range x.Mag {
		switch next() % 6 {
		case 0:
			x.Mag[i] = 0
		case 1:
			x.Mag[i] = top
		case 2:
			x.Mag[i] = next() % 12
		default:
			x.Mag[i] = next()
		}
	}
	return x
}

// some are many numbers of at most some limbs, half of them with a common factor in numerator and denominator.
func some(count, limbs int) []api.Rat {
	next := source()
	list := make([]api.Rat, count)
	for i := range list {
		x := api.Rat{Num: made(limbs, next), Den: made(limbs, next)}
		if i%2 == 0 {
			factor := number(made(limbs, next))
			x.Num = asInt(factor.Mul(factor, number(x.Num)))
			factor = number(made(limbs, next))
			x.Den = asInt(factor.Mul(factor, number(x.Den)))
		}
		list[i] = x
	}
	return list
}

// singles hands on all edges, and many others.
func singles(yield func(x api.Rat)) {
	for _, x := range append(edges(), some(2000, 6)...) {
		yield(x)
	}
}

// small are numbers of one digit up and down, 0 there too.
func small() []api.Rat {
	var list []api.Rat
	for num := int64(-4); num <= 4; num++ {
		for den := int64(-4); den <= 4; den++ {
			list = append(list, api.Rat{Num: of(num), Den: of(den)})
		}
	}
	return list
}

// pairs hands on all pairs of small ones, of neighbours among the edges at several distances, and many others.
func pairs(yield func(x, y api.Rat)) {
	for _, x := range small() {
		for _, y := range small() {
			yield(x, y)
		}
	}
	list := edges()
	for i, x := range list {
		for _, far := range []int{0, 1, 7, len(ints()), len(ints()) + 1, 613} {
			yield(x, list[(i+far)%len(list)])
		}
	}
	list = some(3000, 6)
	for i := range len(list) - 1 {
		yield(list[i], list[i+1])
	}
}

// q tells a small number, and fails if there is none.
func q(t *testing.T, num, den int64) api.Rat {
	t.Helper()
	x, e := ratio.Small(num, den)
	fine(t, "Small", e)
	return x
}

func TestExamples(t *testing.T) {
	if got := ratio.Text(q(t, 6, -4)); got != "-3/2" {
		t.Error("Small(6, -4):", got)
	}
	told(t, "1/2 and -1/2", ratio.Add(q(t, 1, 2), q(t, -1, 2)), new(big.Rat))
	for _, s := range []string{"2/4", "3/1", "1/-2"} {
		refused(t, s, api.ErrForm)
	}
}

// P6.1
func TestMay(t *testing.T) {
	for _, c := range []struct {
		num, den api.Int
		want     bool
	}{
		{of(0), of(1), true},
		{of(1), of(1), true},
		{of(-1), of(1), true},
		{of(-3), of(2), true},
		{of(2), of(3), true},
		{of(1 << 40), of(1<<40 + 1), true},
		{api.Int{Mag: []uint32{}}, of(1), true},
		{of(0), of(0), false},
		{of(5), of(0), false},
		{of(0), of(2), false},
		{of(0), of(-1), false},
		{of(1), of(-1), false},
		{of(3), of(-2), false},
		{of(2), of(2), false},
		{of(2), of(4), false},
		{of(-9), of(6), false},
		{of(1 << 40), of(3 << 40), false},
		{api.Int{Neg: true}, of(1), false},
		{api.Int{Mag: []uint32{0}}, of(1), false},
		{api.Int{Mag: []uint32{3, 0}}, of(2), false},
		{of(3), api.Int{Mag: []uint32{2, 0}}, false},
		{of(3), api.Int{Mag: []uint32{1, 0}}, false},
	} {
		if got := ratio.May(api.Rat{Num: c.num, Den: c.den}); got != c.want {
			t.Errorf("May(%v / %v): %v", c.num, c.den, got)
		}
	}
	singles(func(x api.Rat) {
		want := same(x, asRat(broken(x)))
		if got := ratio.May(x); got != want {
			t.Errorf("May(%v): %v", x, got)
		}
		if !ratio.May(asRat(broken(x))) {
			t.Errorf("May of the canonical %v: false", broken(x))
		}
	})
}

// P6.1: Of is refused just at 0, however that is written, and tells the canonical number.
func TestOf(t *testing.T) {
	singles(func(x api.Rat) {
		got, e := ratio.Of(x.Num, x.Den)
		if number(x.Den).Sign() == 0 {
			nothing(t, "Of", got, e, api.ErrZero)
			return
		}
		fine(t, "Of", e)
		told(t, "Of", got, broken(x))
	})
	for _, num := range ints() {
		for _, den := range noughts() {
			got, e := ratio.Of(num, den)
			nothing(t, "Of something over 0", got, e, api.ErrZero)
		}
	}
}

// P6.1
func TestSmall(t *testing.T) {
	list := []int64{0, 1, -1, 2, -2, 3, 6, -6, 1 << 31, -1 << 31, 1 << 32, top, -top, math.MaxInt64 - 1, math.MaxInt64, math.MinInt64, math.MinInt64 + 1}
	for _, num := range list {
		for _, den := range list {
			got, e := ratio.Small(num, den)
			if den == 0 {
				nothing(t, "Small", got, e, api.ErrZero)
				continue
			}
			fine(t, "Small", e)
			told(t, "Small", got, big.NewRat(num, den))
		}
	}
}

// P6.1
func TestWhole(t *testing.T) {
	for _, n := range ints() {
		told(t, "Whole", ratio.Whole(n), new(big.Rat).SetInt(number(n)))
	}
}

// P6.1
func TestSignAndCmp(t *testing.T) {
	singles(func(x api.Rat) {
		if got, want := ratio.Sign(x), broken(x).Sign(); got != want {
			t.Errorf("Sign(%v): %d, want %d", x, got, want)
		}
		if ratio.Cmp(x, x) != 0 || ratio.Cmp(x, asRat(broken(x))) != 0 {
			t.Errorf("Cmp of %v and itself is not 0", x)
		}
	})
	pairs(func(x, y api.Rat) {
		if got, want := ratio.Cmp(x, y), broken(x).Cmp(broken(y)); got != want {
			t.Errorf("Cmp(%v, %v): %d, want %d", x, y, got, want)
		}
	})
}

// P6.1: numbers that are as near to each other as their lengths let them be.
func TestCmpOfNear(t *testing.T) {
	long := new(big.Int).Lsh(big.NewInt(1), 700)
	for d := int64(-3); d <= 3; d++ {
		x := new(big.Rat).SetFrac(new(big.Int).Add(long, big.NewInt(d)), long)
		y := new(big.Rat).SetFrac(long, new(big.Int).Sub(long, big.NewInt(1)))
		if got, want := ratio.Cmp(asRat(x), asRat(y)), x.Cmp(y); got != want {
			t.Errorf("Cmp at %d: %d, want %d", d, got, want)
		}
	}
}

// P6.1
func TestField(t *testing.T) {
	singles(func(x api.Rat) {
		told(t, "Neg", ratio.Neg(x), new(big.Rat).Neg(broken(x)))
	})
	pairs(func(x, y api.Rat) {
		told(t, "Add", ratio.Add(x, y), new(big.Rat).Add(broken(x), broken(y)))
		told(t, "Sub", ratio.Sub(x, y), new(big.Rat).Sub(broken(x), broken(y)))
		told(t, "Mul", ratio.Mul(x, y), new(big.Rat).Mul(broken(x), broken(y)))
		quotient, e := ratio.Div(x, y)
		if broken(y).Sign() == 0 {
			nothing(t, "Div by 0", quotient, e, api.ErrZero)
		} else {
			fine(t, "Div", e)
			told(t, "Div", quotient, new(big.Rat).Quo(broken(x), broken(y)))
		}
		if t.Failed() {
			t.Fatalf("of %v and %v", x, y)
		}
	})
}

// P6.1: a denominator of 0 counts as 1, also of what is divided by.
func TestWithoutDenominator(t *testing.T) {
	for _, den := range noughts() {
		x, y := api.Rat{Num: of(6), Den: den}, q(t, 3, 2)
		told(t, "Neg", ratio.Neg(x), big.NewRat(-6, 1))
		told(t, "Add", ratio.Add(x, y), big.NewRat(15, 2))
		told(t, "Sub", ratio.Sub(y, x), big.NewRat(-9, 2))
		told(t, "Mul", ratio.Mul(x, y), big.NewRat(9, 1))
		if ratio.Sign(x) != 1 || ratio.Cmp(x, q(t, 6, 1)) != 0 || ratio.Cmp(y, x) != -1 || ratio.May(x) {
			t.Errorf("order with %v", x)
		}
		if got := ratio.Text(x); got != "6" {
			t.Errorf("Text(%v): %q", x, got)
		}
		quotient, e := ratio.Div(x, y)
		fine(t, "Div", e)
		told(t, "Div", quotient, big.NewRat(4, 1))
		quotient, e = ratio.Div(y, x)
		fine(t, "Div", e)
		told(t, "Div", quotient, big.NewRat(1, 4))
		for _, num := range noughts() {
			quotient, e = ratio.Div(y, api.Rat{Num: num, Den: den})
			nothing(t, "Div by 0", quotient, e, api.ErrZero)
		}
	}
}

// P6.1: 0 is one number, whatever stands below it.
func TestNought(t *testing.T) {
	for _, num := range noughts() {
		for _, den := range ints() {
			x := api.Rat{Num: num, Den: den}
			told(t, "Neg of 0", ratio.Neg(x), new(big.Rat))
			told(t, "0 and 0", ratio.Add(x, x), new(big.Rat))
			told(t, "0 times 2/3", ratio.Mul(x, q(t, 2, 3)), new(big.Rat))
			quotient, e := ratio.Div(q(t, 2, 3), x)
			nothing(t, "Div by 0", quotient, e, api.ErrZero)
			quotient, e = ratio.Div(x, x)
			nothing(t, "Div of 0 by 0", quotient, e, api.ErrZero)
			quotient, e = ratio.Div(x, q(t, -2, 3))
			fine(t, "Div of 0", e)
			told(t, "Div of 0", quotient, new(big.Rat))
			if ratio.Sign(x) != 0 || ratio.Cmp(x, api.Rat{}) != 0 || ratio.Text(x) != "0" {
				t.Errorf("%v is not 0", x)
			}
		}
	}
}

// What follows: the rational numbers are a field.
func TestFieldLaws(t *testing.T) {
	list := append(some(300, 4), small()...)
	one := q(t, 1, 1)
	equal := func(law string, x, y api.Rat) {
		t.Helper()
		if !same(x, y) || !ratio.May(x) {
			t.Errorf("%s: %v and %v", law, x, y)
		}
	}
	for i := range len(list) - 2 {
		x, y, z := list[i], list[i+1], list[i+2]
		equal("x + y = y + x", ratio.Add(x, y), ratio.Add(y, x))
		equal("(x + y) + z = x + (y + z)", ratio.Add(ratio.Add(x, y), z), ratio.Add(x, ratio.Add(y, z)))
		equal("x + 0 = 0 + x", ratio.Add(x, api.Rat{}), ratio.Add(api.Rat{}, x))
		equal("x + -x = x - x", ratio.Add(x, ratio.Neg(x)), ratio.Sub(x, x))
		equal("x - y = x + -y", ratio.Sub(x, y), ratio.Add(x, ratio.Neg(y)))
		equal("x y = y x", ratio.Mul(x, y), ratio.Mul(y, x))
		equal("(x y) z = x (y z)", ratio.Mul(ratio.Mul(x, y), z), ratio.Mul(x, ratio.Mul(y, z)))
		equal("x (y + z) = x y + x z", ratio.Mul(x, ratio.Add(y, z)), ratio.Add(ratio.Mul(x, y), ratio.Mul(x, z)))
		equal("x 1 = 1 x", ratio.Mul(x, one), ratio.Mul(one, x))
		if ratio.Sign(y) != 0 {
			quotient, e := ratio.Div(x, y)
			fine(t, "Div", e)
			equal("(x / y) y = x", ratio.Mul(quotient, y), ratio.Mul(x, one))
		}
	}
}

// What follows: order goes with sums, and with products by what is above 0.
func TestOrderLaws(t *testing.T) {
	list := append(some(300, 4), small()...)
	for i := range len(list) - 2 {
		x, y, z := list[i], list[i+1], list[i+2]
		order := ratio.Cmp(x, y)
		if ratio.Cmp(y, x) != -order || ratio.Sign(ratio.Sub(x, y)) != order {
			t.Errorf("the order of %v and %v", x, y)
		}
		if ratio.Cmp(ratio.Add(x, z), ratio.Add(y, z)) != order {
			t.Errorf("the order of %v and %v, each and %v", x, y, z)
		}
		if ratio.Cmp(ratio.Mul(x, z), ratio.Mul(y, z)) != order*ratio.Sign(z) {
			t.Errorf("the order of %v and %v, each times %v", x, y, z)
		}
	}
}

// wantText tells a number's text, the tests' own way.
func wantText(x *big.Rat) string {
	if x.IsInt() {
		return x.Num().String()
	}
	return x.String()
}

// P6.2: a number that is not canonical has the text of the canonical one.
func TestText(t *testing.T) {
	for want, x := range map[string]api.Rat{
		"0":             {},
		"-3/2":          {Num: of(6), Den: of(-4)},
		"3/2":           {Num: of(-6), Den: of(-4)},
		"-2":            {Num: of(2), Den: of(-1)},
		"1/2":           {Num: of(2), Den: of(4)},
		"3":             {Num: of(9), Den: of(3)},
		"-1/4294967296": {Num: of(-1), Den: of(1 << 32)},
	} {
		if got := ratio.Text(x); got != want {
			t.Errorf("Text(%v): %q, want %q", x, got, want)
		}
	}
	singles(func(x api.Rat) {
		if got, want := ratio.Text(x), wantText(broken(x)); got != want {
			t.Errorf("Text(%v): %q, want %q", x, got, want)
		}
	})
}

// P6.2: Text has no bound.
func TestLongText(t *testing.T) {
	long := new(big.Int).Exp(big.NewInt(7), big.NewInt(30000), nil)
	for _, x := range []*big.Rat{
		new(big.Rat).SetFrac(long, big.NewInt(10)),
		new(big.Rat).SetFrac(big.NewInt(-10), long),
		new(big.Rat).SetInt(long),
	} {
		if got := ratio.Text(asRat(x)); got != wantText(x) {
			t.Errorf("Text: %.40q.., want %.40q..", got, wantText(x))
		}
	}
}

// refused fails unless Parse tells the error alone.
func refused(t *testing.T, s string, want api.Errno) {
	t.Helper()
	x, e := ratio.Parse(s)
	if e != want {
		t.Errorf("Parse(%.40q) of %d bytes: error %d, want %d", s, len(s), e, want)
	}
	if !same(x, api.Rat{}) {
		t.Errorf("Parse(%.40q) of %d bytes: a number beside an error", s, len(s))
	}
}

// read fails unless Parse tells that very number.
func read(t *testing.T, s string, want *big.Rat) {
	t.Helper()
	x, e := ratio.Parse(s)
	if e != api.OK {
		t.Errorf("Parse(%.40q) of %d bytes: error %d", s, len(s), e)
	}
	if !same(x, asRat(want)) {
		t.Errorf("Parse(%.40q) of %d bytes: another number", s, len(s))
	}
}

// P6.2: what Text tells is read again.
func TestParse(t *testing.T) {
	singles(func(x api.Rat) {
		read(t, ratio.Text(x), broken(x))
	})
	for s, x := range map[string]*big.Rat{
		"0":             big.NewRat(0, 1),
		"1":             big.NewRat(1, 1),
		"-1":            big.NewRat(-1, 1),
		"5/6":           big.NewRat(5, 6),
		"-5/6":          big.NewRat(-5, 6),
		"1/10":          big.NewRat(1, 10),
		"10/1000000001": big.NewRat(10, 1000000001),
	} {
		read(t, s, x)
	}
}

// P6.2: texts that are of no number.
func TestParseRefused(t *testing.T) {
	for _, s := range []string{
		"", "/", "//", "/1", "/2", "1/", "2/", "-/2", "-", "-1/", "1//2", "1/2/", "/1/2", "1/2/3", "1/2/1", "2/3/5",
		"2/4", "-2/4", "6/3", "-6/4", "2/2", "0/5", "0/1", "0/0", "-0/1", "-0", "-0/2", "3/1", "-3/1", "1/1", "1/0", "-1/0", "1/-2", "-1/-2", "1/-1", "3/-0",
		"01/2", "1/02", "00/3", "1/00", "+1/2", "1/+2", "--1/2", "1/--2", " 1/2", "1 /2", "1/ 2", "1/2 ", "1/2\n", "\t1/2", "1\n/2", "1/2\x00", "1\\2", "1:2", "1\u22152", "1\u20442", "1\u00f72",
		"1.5", "1.0", "1e2", "1/1e2", "0x1/2", "1/0x2", "a", "a/2", "1/a", "1/2a", "half", "nil", "NaN", "1/Inf", "\xff", "1/\xff", "1/\u0662", "\u0661/2", "1_0/3", "1/1_1", "1,5", "1 1/2", "1+1/2",
		"4294967296/4294967296", "18446744073709551616/4", "1/18446744073709551616/18446744073709551616",
	} {
		refused(t, s, api.ErrForm)
	}
}

// shortTexts are all numbers' texts of at most so many bytes, with the numbers.
func shortTexts(most int) map[string]*big.Rat {
	texts := map[string]*big.Rat{}
	ten := int64(math.Pow10(most))
	for num := -ten / 10; num < ten; num++ {
		for den := int64(1); den < ten; den++ {
			if s := big.NewInt(num).String() + "/" + big.NewInt(den).String(); den > 1 && len(s) > most {
				break // a greater denominator is no shorter
			}
			x := big.NewRat(num, den)
			if s := wantText(x); len(s) <= most {
				texts[s] = x
			}
		}
	}
	return texts
}

// P6.2: of all short texts just those that Text tells are read; each is that of one number.
func TestAllShortTexts(t *testing.T) {
	const most = 5
	texts := shortTexts(most)
	for s, x := range texts {
		read(t, s, x)
		if got := ratio.Text(asRat(x)); got != s {
			t.Errorf("Text: %q, want %q", got, s)
		}
	}
	var try func(s string)
	try = func(s string) {
		if texts[s] == nil {
			refused(t, s, api.ErrForm)
		}
		if len(s) == most {
			return
		}
		for _, c := range []byte("-/012469 a") {
			try(s + string(c))
		}
	}
	try("")
}

// P6.2: digits are the ten bytes from 0 to 9, and / stands once, at each place of a text.
func TestParseOfBytes(t *testing.T) {
	for b := range 256 {
		letter := string([]byte{byte(b)})
		if letter >= "0" && letter <= "9" {
			continue
		}
		for _, s := range []string{letter + "/7", "1" + letter + "/7", "1/" + letter, "1/" + letter + "7", "1/7" + letter, "1/12345678" + letter + "1"} {
			refused(t, s, api.ErrForm)
		}
	}
}

// P6.2: MaxDigits bytes are not too many, one more is; the sign and / are counted in.
func TestParseBounds(t *testing.T) {
	const most = api.MaxDigits
	nines := func(n int) string { return strings.Repeat("9", n) }
	unit := func(n int) string { return "1" + strings.Repeat("0", n-1) }
	for _, s := range []string{
		nines(most),
		"-" + nines(most-1),
		nines(most-3) + "/" + unit(2),
		"-" + nines(most-6) + "/" + unit(4),
		unit(2) + "/" + nines(most-3),
		nines(most/2) + "/" + unit(most-most/2-1),
		"-" + unit(most/2) + "/" + nines(most-most/2-2),
	} {
		if len(s) != most {
			t.Fatalf("%.10q has %d bytes", s, len(s))
		}
		x, ok := new(big.Rat).SetString(s)
		if !ok {
			t.Fatalf("%.10q is no number", s)
		}
		read(t, s, x)
		if got, _ := ratio.Parse(s); ratio.Text(got) != s {
			t.Errorf("%.10q of %d bytes is another text again", s, len(s))
		}
		refused(t, s+"1", api.ErrLong)
		refused(t, s+"\x00", api.ErrLong)
	}
	refused(t, nines(most-2)+"/3", api.ErrForm)
	refused(t, nines(most-2)+"/1", api.ErrForm)
	refused(t, nines(most-1)+"/", api.ErrForm)
	refused(t, "/"+nines(most-1), api.ErrForm)
	refused(t, unit(most/2)+"/"+unit(most-most/2-1), api.ErrForm)
	refused(t, strings.Repeat("/", most), api.ErrForm)
	refused(t, strings.Repeat("0", most), api.ErrForm)
}

// P1: ErrLong is told ahead of ErrForm, also where each part alone would not be too long.
func TestLongAheadOfForm(t *testing.T) {
	const more = api.MaxDigits + 1
	for _, s := range []string{"0", "-", "/", "x", "\x00", "\xff", " "} {
		refused(t, strings.Repeat(s, more), api.ErrLong)
	}
	refused(t, strings.Repeat("2/", more/2+1), api.ErrLong)
	refused(t, "1/"+strings.Repeat("7", more-2), api.ErrLong)
	refused(t, strings.Repeat("7", more-2)+"/2", api.ErrLong)
	refused(t, strings.Repeat("6", more/2)+"/"+strings.Repeat("6", more/2), api.ErrLong)
	refused(t, strings.Repeat("\u0661", more/2+1), api.ErrLong) // fewer letters than MaxDigits, but more bytes
	refused(t, strings.Repeat("7", 1<<22), api.ErrLong)
}

// P1: noughts without a number, and many of them behind one.
func TestManyNoughts(t *testing.T) {
	padded := func(n uint32) api.Int {
		x := api.Int{Neg: true, Mag: make([]uint32, 1<<20)}
		x.Mag[0] = n
		return x
	}
	list := []api.Rat{{Num: padded(6), Den: padded(4)}, {Num: padded(6), Den: padded(0)}, {Num: padded(0), Den: padded(4)}, {Num: padded(0), Den: padded(0)}, q(t, -3, 2)}
	for _, x := range list {
		for _, y := range list {
			told(t, "Add", ratio.Add(x, y), new(big.Rat).Add(broken(x), broken(y)))
			told(t, "Sub", ratio.Sub(x, y), new(big.Rat).Sub(broken(x), broken(y)))
			told(t, "Mul", ratio.Mul(x, y), new(big.Rat).Mul(broken(x), broken(y)))
			if got, want := ratio.Cmp(x, y), broken(x).Cmp(broken(y)); got != want {
				t.Errorf("Cmp: %d, want %d", got, want)
			}
			_, e := ratio.Div(x, y)
			if (e == api.ErrZero) != (broken(y).Sign() == 0) {
				t.Errorf("Div: error %d", e)
			}
		}
		if got, want := ratio.Text(x), wantText(broken(x)); got != want {
			t.Errorf("Text: %q, want %q", got, want)
		}
	}
}

// calls are all functions that tell a Rat of others; what they refuse is left away.
func calls() []func(x, y api.Rat) api.Rat {
	return []func(x, y api.Rat) api.Rat{
		func(x, _ api.Rat) api.Rat { r, _ := ratio.Of(x.Num, x.Den); return r },
		func(x, _ api.Rat) api.Rat { return ratio.Whole(x.Num) },
		func(x, _ api.Rat) api.Rat { return ratio.Neg(x) },
		ratio.Add,
		ratio.Sub,
		ratio.Mul,
		func(x, y api.Rat) api.Rat { r, _ := ratio.Div(x, y); return r },
		func(x, y api.Rat) api.Rat {
			ratio.May(x)
			ratio.Sign(x)
			ratio.Cmp(x, y)
			ratio.Text(x)
			return api.Rat{}
		},
	}
}

const mark = 77

// roomy tells the same Int with marks behind its limbs.
func roomy(x api.Int) api.Int {
	limbs := append(slices.Clone(x.Mag), mark, mark, mark)
	return api.Int{Neg: x.Neg, Mag: limbs[:len(x.Mag)]}
}

// stayed tells whether a roomy Int has its limbs and its marks still.
func stayed(now, then api.Int) bool {
	return slices.Equal(now.Mag[:len(now.Mag)+3], append(slices.Clone(then.Mag), mark, mark, mark))
}

// spoil turns all limbs, also those behind the length.
func spoil(x api.Int) {
	limbs := x.Mag[:cap(x.Mag)]
	for i := range limbs {
		limbs[i] = ^limbs[i]
	}
}

// What is handed in stays, also behind its length; what is told is in memory of its own.
func TestMemory(t *testing.T) {
	list := append(small(), some(100, 5)...)
	for i, x := range edges() {
		if i%5 == 0 {
			list = append(list, x)
		}
	}
	for i, call := range calls() {
		for at, a := range list {
			b := list[(at*7+3)%len(list)]
			x := api.Rat{Num: roomy(a.Num), Den: roomy(a.Den)}
			y := api.Rat{Num: roomy(b.Num), Den: roomy(b.Den)}
			told := call(x, y)
			spoil(told.Num)
			spoil(told.Den)
			if !stayed(x.Num, a.Num) || !stayed(x.Den, a.Den) || !stayed(y.Num, b.Num) || !stayed(y.Den, b.Den) {
				t.Errorf("call %d of %v and %v changed one: %v, %v", i, a, b, x, y)
			}
		}
	}
}

// Numerator and denominator share no memory, not even behind their lengths.
func TestApart(t *testing.T) {
	apart := func(what string, x api.Rat) {
		t.Helper()
		num, den := slices.Clone(x.Num.Mag), slices.Clone(x.Den.Mag)
		spoil(x.Num)
		if !slices.Equal(x.Den.Mag, den) {
			t.Errorf("%s: numerator and denominator %v lie in one memory", what, den)
		}
		copy(x.Num.Mag, num)
		spoil(x.Den)
		if !slices.Equal(x.Num.Mag, num) {
			t.Errorf("%s: denominator and numerator %v lie in one memory", what, num)
		}
	}
	pairs(func(x, y api.Rat) {
		for _, call := range calls() {
			apart("a call", call(x, y))
		}
	})
	for _, s := range []string{"0", "-7", "1/2", "-4294967296/18446744073709551617"} {
		x, e := ratio.Parse(s)
		fine(t, "Parse", e)
		apart("Parse", x)
		if y, e := ratio.Parse(s); e != api.OK || ratio.Text(y) != s {
			t.Errorf("Parse(%q) again: %v, %d", s, y, e)
		}
	}
	x, _ := ratio.Small(-1, 3)
	apart("Small", x)
	if y, _ := ratio.Small(-1, 3); ratio.Text(y) != "-1/3" {
		t.Error("Small(-1, 3) again:", y)
	}
}

// The same number may be both arguments, and the same limbs both parts of a number.
func TestSharedArguments(t *testing.T) {
	for _, x := range some(300, 6) {
		num, den := slices.Clone(x.Num.Mag), slices.Clone(x.Den.Mag)
		n := broken(x)
		told(t, "Add of x and x", ratio.Add(x, x), new(big.Rat).Add(n, n))
		told(t, "Sub of x and x", ratio.Sub(x, x), new(big.Rat))
		told(t, "Mul of x and x", ratio.Mul(x, x), new(big.Rat).Mul(n, n))
		one := api.Rat{Num: x.Num, Den: x.Num}
		told(t, "Neg of x over x", ratio.Neg(one), new(big.Rat).Neg(broken(one)))
		if !slices.Equal(x.Num.Mag, num) || !slices.Equal(x.Den.Mag, den) {
			t.Errorf("%v over %v is %v now", num, den, x)
		}
	}
}

// P1: the longest texts end soon, also where the common factor is found late (neighbours in Fibonacci's row).
func TestParseEnds(t *testing.T) {
	a, b := big.NewInt(1), big.NewInt(2)
	for len(a.String())+len(b.String())+1 < api.MaxDigits {
		for range 40 {
			a, b = b, a.Add(a, b)
		}
	}
	for len(a.String())+len(b.String())+1 > api.MaxDigits {
		a, b = b.Sub(b, a), a
	}
	read(t, a.String()+"/"+b.String(), new(big.Rat).SetFrac(a, b))
	read(t, "-"+b.String()[:9000]+"/"+a.String(), new(big.Rat).SetFrac(leading(b, 9000), a))
}

// leading tells the number of the first digits, below 0.
func leading(x *big.Int, n int) *big.Int {
	y, _ := new(big.Int).SetString("-"+x.String()[:n], 10)
	return y
}

// Whatever text is read is told again byte by byte; what is refused is no number's.
func FuzzParse(f *testing.F) {
	for _, s := range []string{"", "0", "-0", "-7", "1/2", "2/4", "3/1", "1/-2", "1/0", "/2", "1/", "1/2/3", "-4294967297/4294967296", "\xff/\xff"} {
		f.Add(s)
	}
	f.Fuzz(func(t *testing.T, s string) {
		if len(s) > api.MaxDigits {
			refused(t, s, api.ErrLong)
			return
		}
		over, under, slashed := strings.Cut(s, "/")
		num, ok := new(big.Int).SetString(over, 10)
		den, too := big.NewInt(1), true
		if slashed {
			den, too = den.SetString(under, 10)
		}
		if !ok || !too || den.Sign() == 0 || wantText(new(big.Rat).SetFrac(num, den)) != s {
			refused(t, s, api.ErrForm)
			return
		}
		x := new(big.Rat).SetFrac(num, den)
		read(t, s, x)
		if got := ratio.Text(asRat(x)); got != s {
			t.Errorf("Text: %q, want %q", got, s)
		}
	})
}
