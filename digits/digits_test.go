package digits_test

import (
	"math"
	"math/big"
	"slices"
	"strings"
	"testing"

	"porism/api"
	"porism/digits"
)

const top = math.MaxUint32

// number tells in the library's numbers what an Int stands for: the tests' other way to work things out.
func number(x api.Int) *big.Int {
	bytes := make([]byte, 0, 4*len(x.Mag))
	for i := len(x.Mag) - 1; i >= 0; i-- {
		limb := x.Mag[i]
		bytes = append(bytes, byte(limb>>24), byte(limb>>16), byte(limb>>8), byte(limb))
	}
	n := new(big.Int).SetBytes(bytes)
	if x.Neg {
		n.Neg(n)
	}
	return n
}

// asInt tells the canonical Int of one of the library's numbers.
func asInt(n *big.Int) api.Int {
	x := api.Int{Neg: n.Sign() < 0}
	bytes := n.Bytes()
	for at := len(bytes); at > 0; at -= 4 {
		limb := uint32(0)
		for _, b := range bytes[max(at-4, 0):at] {
			limb = limb<<8 | uint32(b)
		}
		x.Mag = append(x.Mag, limb)
	}
	return x
}

// same tells whether both are the same Int, limb by limb.
func same(x, y api.Int) bool {
	return x.Neg == y.Neg && slices.Equal(x.Mag, y.Mag)
}

// power tells base to the n.
func power(base int64, n int) *big.Int {
	return new(big.Int).Exp(big.NewInt(base), big.NewInt(int64(n)), nil)
}

// edges are numbers at which digits, pieces of nine and limbs change, with each sign; all canonical.
func edges() []api.Int {
	var around []*big.Int
	for n := range 60 {
		around = append(around, power(10, n))
	}
	for n := range 200 {
		around = append(around, power(2, n))
	}
	for _, n := range []int{90, 99, 180, 900, 901, 2000} {
		around = append(around, power(10, n))
	}
	list := []api.Int{{}}
	for _, middle := range around {
		for d := int64(-2); d <= 2; d++ {
			n := new(big.Int).Add(middle, big.NewInt(d))
			list = append(list, asInt(n), asInt(new(big.Int).Neg(n)))
		}
	}
	return list
}

// source tells numbers by a rule: the same ones at each run.
func source() func() uint32 {
	seed := uint64(0x9e3779b97f4a7c15)
	return func() uint32 {
		seed ^= seed << 13
		seed ^= seed >> 7
		seed ^= seed << 17
		return uint32(seed >> 16)
	}
}

// made are many numbers of at most some limbs, with many noughts and full ones among these; some are not canonical.
func made(count, limbs int) []api.Int {
	next := source()
	list := make([]api.Int, count)
	for i := range list {
		x := api.Int{Neg: next()%2 == 0, Mag: make([]uint32, int(next())%(limbs+1))}
		for i := range x.Mag {
			switch next() % 6 {
			case 0:
				x.Mag[i] = 0
			case 1:
				x.Mag[i] = top
			default:
				x.Mag[i] = next()
			}
		}
		list[i] = x
	}
	return list
}

// loose are numbers that are not canonical, with what each has to be told as.
func loose() map[string][]api.Int {
	return map[string][]api.Int{
		"0":                     {{Neg: true}, {Neg: true, Mag: []uint32{}}, {Mag: []uint32{}}, {Mag: []uint32{0}}, {Neg: true, Mag: []uint32{0}}, {Mag: []uint32{0, 0, 0}}, {Neg: true, Mag: []uint32{0, 0, 0}}},
		"5":                     {{Mag: []uint32{5, 0}}, {Mag: []uint32{5, 0, 0, 0}}},
		"-5":                    {{Neg: true, Mag: []uint32{5, 0}}, {Neg: true, Mag: []uint32{5, 0, 0, 0}}},
		"4294967296":            {{Mag: []uint32{0, 1, 0}}, {Mag: []uint32{0, 1, 0, 0}}},
		"-18446744073709551615": {{Neg: true, Mag: []uint32{top, top, 0}}},
	}
}

// refused fails unless Parse tells the error alone.
func refused(t *testing.T, s string, want api.Errno) {
	t.Helper()
	x, e := digits.Parse(s)
	if e != want {
		t.Errorf("Parse(%.40q) of %d bytes: error %d, want %d", s, len(s), e, want)
	}
	if x.Neg || len(x.Mag) != 0 {
		t.Errorf("Parse(%.40q) of %d bytes: a number beside an error", s, len(s))
	}
}

// read fails unless Parse tells that very number.
func read(t *testing.T, s string, want api.Int) {
	t.Helper()
	x, e := digits.Parse(s)
	if e != api.OK {
		t.Errorf("Parse(%.40q) of %d bytes: error %d", s, len(s), e)
	}
	if !same(x, want) {
		t.Errorf("Parse(%.40q) of %d bytes: %v, want %v", s, len(s), x, want)
	}
}

func TestExamples(t *testing.T) {
	for want, x := range map[string]api.Int{
		"4294967296": {Mag: []uint32{0, 1}},
		"-7":         {Neg: true, Mag: []uint32{7}},
		"0":          {},
	} {
		if got := digits.Text(x); got != want {
			t.Errorf("Text(%v): %q, want %q", x, got, want)
		}
	}
	for _, s := range []string{"007", "-0", "", "+1"} {
		refused(t, s, api.ErrForm)
	}
}

// P5.1
func TestText(t *testing.T) {
	for _, x := range append(edges(), made(3000, 30)...) {
		if got, want := digits.Text(x), number(x).String(); got != want {
			t.Fatalf("Text(%v): %q, want %q", x, got, want)
		}
	}
}

// P5.1: 0 has no sign, whatever it is handed in with; noughts at the end of the limbs change nothing.
func TestTextOfLoose(t *testing.T) {
	for want, list := range loose() {
		for _, x := range list {
			if got := digits.Text(x); got != want {
				t.Errorf("Text(%v): %q, want %q", x, got, want)
			}
		}
	}
	noughts := api.Int{Neg: true, Mag: make([]uint32, 1<<20)}
	if got := digits.Text(noughts); got != "0" {
		t.Errorf("Text of noughts: %q", got)
	}
	noughts.Mag[0] = 12
	if got := digits.Text(noughts); got != "-12" {
		t.Errorf("Text of 12 and noughts: %q", got)
	}
}

// P5.1: pieces of nine digits that are 0, or begin with noughts, stay whole inside of a number, and are cut at its head.
func TestTextOfPieces(t *testing.T) {
	pieces := []string{"000000000", "000000001", "010000000", "099999999", "100000000", "999999999"}
	for _, a := range pieces {
		for _, b := range pieces {
			for _, c := range pieces {
				s := strings.TrimLeft(a+b+c, "0")
				if s == "" {
					s = "0"
				}
				n, _ := new(big.Int).SetString(s, 10)
				if got := digits.Text(asInt(n)); got != s {
					t.Errorf("Text: %q, want %q", got, s)
				}
				read(t, s, asInt(n))
			}
		}
	}
}

// P5.1: Text has no bound.
func TestLongText(t *testing.T) {
	for _, n := range []*big.Int{power(10, 20000), power(10, 30000), power(2, 100000), new(big.Int).Sub(power(10, 25000), big.NewInt(1))} {
		for range 2 {
			if got := digits.Text(asInt(n)); got != n.String() {
				t.Errorf("Text of a number of %d bits: %.40q.., want %.40q..", n.BitLen(), got, n.String())
			}
			n = new(big.Int).Neg(n)
		}
	}
}

// P5.2: each number of not too many digits is read again.
func TestParse(t *testing.T) {
	for _, x := range append(edges(), made(3000, 30)...) {
		n := number(x)
		read(t, n.String(), asInt(n))
		read(t, digits.Text(x), asInt(n))
		if t.Failed() {
			t.Fatalf("of %v", x)
		}
	}
}

// P5.2: 0 is told canonical.
func TestParseOfNought(t *testing.T) {
	x, e := digits.Parse("0")
	if e != api.OK || x.Neg || len(x.Mag) != 0 {
		t.Error("Parse of 0:", x, e)
	}
}

// P5.2: all lengths up to a few pieces.
func TestParseOfLengths(t *testing.T) {
	for n := 1; n < 120; n++ {
		for _, s := range []string{strings.Repeat("9", n), "1" + strings.Repeat("0", n), strings.Repeat("1234567890", 12)[:n]} {
			want, _ := new(big.Int).SetString(s, 10)
			read(t, s, asInt(want))
			read(t, "-"+s, asInt(new(big.Int).Neg(want)))
		}
	}
}

// P5.2: texts that are of no number.
func TestParseRefused(t *testing.T) {
	for _, s := range []string{
		"", "-", "--", "+", "+0", "+1", "-+1", "+-1", "--1", "-0", "-00", "-01", "00", "01", "007", "0000000000", "-0000000001", "0-", "1-", "1-1",
		" ", " 1", "1 ", "- 1", "1\n", "\t1", "1 000", "1,000", "1_000", "1'000", "_1", "1_", "1.0", "1.", ".1", "1e3", "1E3", "0x10", "0b1", "0o7", "10a", "a", "f", "1a",
		"1/1", "1/2", "nil", "NaN", "Inf", "\x00", "1\x00", "\x001", "1\xff", "\xff", "\x80", "\u0661", "1\u0661", "\uff11", "\u00b2", "\u22121", "\u20131", "-\u0663",
		"00000000000000000000", "12345678901234567890x", "x12345678901234567890", "123456789x01234567890", "0123456789", "-0123456789", "-12345678901234567890-",
	} {
		refused(t, s, api.ErrForm)
	}
}

// P5.2: digits are the ten bytes from 0 to 9, at each place of a text.
func TestParseOfBytes(t *testing.T) {
	for b := range 256 {
		letter := string([]byte{byte(b)})
		if letter >= "0" && letter <= "9" {
			continue
		}
		for _, s := range []string{letter, "1" + letter, "12345678" + letter + "1", "1" + letter + "123456789", "-1" + letter, "123456789123456789" + letter, letter + "1"} {
			if s == "-1" {
				continue
			}
			refused(t, s, api.ErrForm)
		}
	}
}

// P5.2: of all short texts just those that Text tells are read; each is that of one number.
func TestAllShortTexts(t *testing.T) {
	told := map[string]int64{}
	for n := int64(-9999); n <= 99999; n++ {
		told[digits.Text(asInt(big.NewInt(n)))] = n
	}
	if len(told) != 9999+1+99999 {
		t.Error("two numbers have one text:", len(told))
	}
	var try func(s string, more int)
	try = func(s string, more int) {
		if n, ok := told[s]; ok {
			read(t, s, asInt(big.NewInt(n)))
		} else {
			refused(t, s, api.ErrForm)
		}
		if more > 0 {
			for _, c := range "-+0129 a" {
				try(s+string(c), more-1)
			}
		}
	}
	try("", 5)
}

// P5.2: MaxDigits bytes are not too many, one more is, the sign counted in.
func TestParseBounds(t *testing.T) {
	const most = api.MaxDigits
	for _, digit := range []string{"1", "9"} {
		long := strings.Repeat(digit, most)
		want, _ := new(big.Int).SetString(long, 10)
		read(t, long, asInt(want))
		if x, _ := digits.Parse(long); digits.Text(x) != long {
			t.Error("the longest number is another text again")
		}
		want.SetString("-"+long[1:], 10)
		read(t, "-"+long[1:], asInt(want))
		refused(t, long+digit, api.ErrLong)
		refused(t, "-"+long, api.ErrLong)
	}
	refused(t, strings.Repeat("0", most), api.ErrForm)
	refused(t, strings.Repeat("-", most), api.ErrForm)
	refused(t, "-"+strings.Repeat("0", most-1), api.ErrForm)
	refused(t, strings.Repeat("1", most-1)+"x", api.ErrForm)
}

// P1: ErrLong is told ahead of ErrForm.
func TestLongAheadOfForm(t *testing.T) {
	const more = api.MaxDigits + 1
	for _, s := range []string{"0", "-", "+", "x", "\x00", "\xff", " "} {
		refused(t, strings.Repeat(s, more), api.ErrLong)
	}
	refused(t, strings.Repeat("\u0661", more/2+1), api.ErrLong) // fewer letters than MaxDigits, but more bytes
	refused(t, "0"+strings.Repeat("1", more), api.ErrLong)
	refused(t, strings.Repeat("7", 1<<22), api.ErrLong)
}

// What is handed in stays, also behind its length; Text is another string when the number changes.
func TestMemory(t *testing.T) {
	const mark = 77
	list := append(edges(), made(200, 12)...)
	for _, some := range loose() {
		list = append(list, some...)
	}
	for _, x := range list {
		roomy := append(slices.Clone(x.Mag), mark, mark, mark)
		text := digits.Text(api.Int{Neg: x.Neg, Mag: roomy[:len(x.Mag)]})
		if !slices.Equal(roomy, append(slices.Clone(x.Mag), mark, mark, mark)) {
			t.Errorf("%v is %v now", x, roomy)
		}
		kept := strings.Clone(text)
		for i := range roomy {
			roomy[i] = ^roomy[i]
		}
		if text != kept {
			t.Errorf("Text(%v) is %q, was %q", x, text, kept)
		}
	}
}

// Two answers share no memory, not even behind their lengths.
func TestApart(t *testing.T) {
	for _, s := range []string{"0", "7", "-4294967296", "18446744073709551616", strings.Repeat("123", 500)} {
		x, _ := digits.Parse(s)
		limbs := x.Mag[:cap(x.Mag)]
		for i := range limbs {
			limbs[i] = ^limbs[i]
		}
		if y, e := digits.Parse(s); e != api.OK || digits.Text(y) != s {
			t.Errorf("Parse(%q) again: %v, %d", s, y, e)
		}
	}
}

// Whatever text is read is told again byte by byte; what is refused is no number's.
func FuzzParse(f *testing.F) {
	for _, s := range []string{"", "0", "-0", "-7", "007", "+1", "4294967296", "1000000000", "-999999999999999999", "1a", "\xff"} {
		f.Add(s)
	}
	f.Fuzz(func(t *testing.T, s string) {
		if len(s) > api.MaxDigits {
			refused(t, s, api.ErrLong)
			return
		}
		n, ok := new(big.Int).SetString(s, 10)
		if !ok || n.String() != s {
			refused(t, s, api.ErrForm)
			return
		}
		read(t, s, asInt(n))
		if got := digits.Text(asInt(n)); got != s {
			t.Errorf("Text: %q, want %q", got, s)
		}
	})
}
