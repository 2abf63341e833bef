package meter_test

import (
	"math"
	"slices"
	"testing"

	"porism/api"
	"porism/meter"
)

// made is a meter of limits that may be.
func made(t *testing.T, l api.Limits) *meter.Meter {
	t.Helper()
	m, e := meter.New(l)
	if e != api.OK || m == nil {
		t.Fatalf("New(%v): error %d, %v", l, e, m)
	}
	return m
}

// limbs is so many limbs that count, and noughts at the end.
func limbs(count, noughts int) []uint32 {
	mag := make([]uint32, count+noughts)
	for i := range count {
		mag[i] = uint32(i % 2)
	}
	if count > 0 {
		mag[count-1] = 1 << 31
	}
	return mag
}

// poly is terms whose numbers have so many limbs.
func poly(lengths ...int) api.Poly {
	p := api.Poly{}
	for i, n := range lengths {
		term := api.Term{C: api.Int{Neg: i%2 == 1, Mag: limbs(n, 0)}}
		if k := len(lengths) - 1 - i; k > 0 {
			term.M = api.Mono{{Var: 1, Exp: k}}
		}
		p = append(p, term)
	}
	return p
}

// ones is so many terms, each with a number of one limb.
func ones(terms int) api.Poly {
	return poly(slices.Repeat([]int{1}, terms)...)
}

func is(t *testing.T, what string, got, want api.Errno) {
	t.Helper()
	if got != want {
		t.Errorf("%s: error %d, want %d", what, got, want)
	}
}

// reads fails unless the meter tells just this.
func reads(t *testing.T, m *meter.Meter, fuel, pieces int, which api.Errno, n int) {
	t.Helper()
	if m.Fuel() != fuel || m.Pieces() != pieces {
		t.Errorf("%d steps and %d pieces, want %d and %d", m.Fuel(), m.Pieces(), fuel, pieces)
	}
	if want := (api.Need{Which: which, N: n}); m.Need() != want {
		t.Errorf("needs %v, want %v", m.Need(), want)
	}
}

// P11.1, P11.2: the chapter's examples.
func TestExamples(t *testing.T) {
	l := api.Limits{Fuel: 1, Limbs: 1, Terms: 1}
	m := made(t, l)
	is(t, "Step", m.Step(), api.OK)
	is(t, "Step again", m.Step(), api.ErrFuel)
	reads(t, m, 1, 0, api.ErrFuel, 2)
	m = made(t, l)
	p := api.Poly{{C: api.Int{Mag: []uint32{0, 1}}, M: api.Mono{{Var: 1, Exp: 1}}}} // 2^32 x
	is(t, "Keep", m.Keep(p), api.ErrLimbs)
	reads(t, m, 0, 0, api.ErrLimbs, 2)
	is(t, "Step", m.Step(), api.OK)
	is(t, "Step again", m.Step(), api.ErrFuel)
	reads(t, m, 1, 0, api.ErrLimbs, 2)
}

// most is the greatest limits that may be.
func most() api.Limits {
	return api.Limits{Fuel: 1000000, Limbs: 10000, Terms: 100000, Pieces: 1000}
}

// P11.1: each limit from 0 to its greatest one may be; the meter has counted nothing, and tells its limits.
func TestNew(t *testing.T) {
	for _, l := range []api.Limits{
		{}, most(), {Fuel: 1, Limbs: 2, Terms: 3, Pieces: 4},
		{Fuel: most().Fuel}, {Limbs: most().Limbs}, {Terms: most().Terms}, {Pieces: most().Pieces},
	} {
		m := made(t, l)
		if m.Limits() != l {
			t.Errorf("limits %v, want %v", m.Limits(), l)
		}
		reads(t, m, 0, 0, api.OK, 0)
	}
}

// P11.1: one limit that may not be is enough, whatever the others are.
func TestNewRefuses(t *testing.T) {
	greatest := []int{1000000, 10000, 100000, 1000}
	for _, others := range []api.Limits{{}, {Fuel: 5, Limbs: 5, Terms: 5, Pieces: 5}, most()} {
		for place, bound := range greatest {
			for _, wrong := range []int{-1, math.MinInt, bound + 1, math.MaxInt} {
				l := others
				*[]*int{&l.Fuel, &l.Limbs, &l.Terms, &l.Pieces}[place] = wrong
				if m, e := meter.New(l); e != api.ErrArg || m != nil {
					t.Errorf("New(%v): error %d, %v", l, e, m)
				}
			}
		}
	}
	if m, e := meter.New(api.Limits{Fuel: -1, Limbs: math.MaxInt, Terms: -1, Pieces: 1001}); e != api.ErrArg || m != nil {
		t.Errorf("all wrong: error %d, %v", e, m)
	}
}

// P11.1, P11.2: as many steps as Fuel are counted, and no more; pieces are not.
func TestStep(t *testing.T) {
	for _, fuel := range []int{0, 1, 2, 7, most().Fuel} {
		m := made(t, api.Limits{Fuel: fuel, Pieces: 3})
		for i := range fuel {
			if e := m.Step(); e != api.OK || m.Fuel() != i+1 {
				t.Fatalf("Fuel %d, step %d: error %d, %d counted", fuel, i+1, e, m.Fuel())
			}
		}
		reads(t, m, fuel, 0, api.OK, 0)
		for range 3 {
			is(t, "Step above Fuel", m.Step(), api.ErrFuel)
			reads(t, m, fuel, 0, api.ErrFuel, fuel+1)
		}
		is(t, "Piece", m.Piece(), api.OK)
		reads(t, m, fuel, 1, api.ErrFuel, fuel+1)
	}
}

// P11.1, P11.2: as many pieces as Pieces are counted, and no more; steps are not.
func TestPiece(t *testing.T) {
	for _, pieces := range []int{0, 1, 2, 7, most().Pieces} {
		m := made(t, api.Limits{Fuel: 3, Pieces: pieces})
		for i := range pieces {
			if e := m.Piece(); e != api.OK || m.Pieces() != i+1 {
				t.Fatalf("Pieces %d, piece %d: error %d, %d counted", pieces, i+1, e, m.Pieces())
			}
		}
		reads(t, m, 0, pieces, api.OK, 0)
		for range 3 {
			is(t, "Piece above Pieces", m.Piece(), api.ErrPieces)
			reads(t, m, 0, pieces, api.ErrPieces, pieces+1)
		}
		is(t, "Step", m.Step(), api.OK)
		reads(t, m, 1, pieces, api.ErrPieces, pieces+1)
	}
}

// P11.1, P11.2: Keep refuses just what is above a bound, the limbs first; it counts nothing.
func TestKeep(t *testing.T) {
	for _, c := range []struct {
		limbs, terms int
		p            api.Poly
		want         api.Need
	}{
		{0, 0, nil, api.Need{}},
		{0, 0, api.Poly{}, api.Need{}},
		{0, 0, poly(1), api.Need{Which: api.ErrLimbs, N: 1}},
		{0, 9, poly(1), api.Need{Which: api.ErrLimbs, N: 1}},
		{9, 0, poly(1), api.Need{Which: api.ErrTerms, N: 1}},
		{1, 1, poly(1), api.Need{}},
		{1, 1, poly(1, 1), api.Need{Which: api.ErrTerms, N: 2}},
		{1, 2, poly(1, 1), api.Need{}},
		{1, 3, poly(1, 1), api.Need{}},
		{1, 1, poly(2, 1), api.Need{Which: api.ErrLimbs, N: 2}},
		{2, 1, poly(2, 1), api.Need{Which: api.ErrTerms, N: 2}},
		{4, 3, poly(3, 5, 4), api.Need{Which: api.ErrLimbs, N: 5}}, // the longest one, wherever it stands
		{4, 3, poly(5, 3, 4), api.Need{Which: api.ErrLimbs, N: 5}},
		{4, 3, poly(3, 4, 5), api.Need{Which: api.ErrLimbs, N: 5}},
		{5, 3, poly(3, 4, 5), api.Need{}},
		{5, 2, poly(3, 4, 5), api.Need{Which: api.ErrTerms, N: 3}},
		{10000, 100000, poly(10000), api.Need{}},
		{10000, 100000, poly(10001), api.Need{Which: api.ErrLimbs, N: 10001}},
		{10000, 0, poly(3, 20000), api.Need{Which: api.ErrLimbs, N: 20000}},
		{10000, 100000, ones(100000), api.Need{}},
		{10000, 100000, ones(100001), api.Need{Which: api.ErrTerms, N: 100001}},
		{1, 3, ones(100001), api.Need{Which: api.ErrTerms, N: 100001}},
	} {
		m := made(t, api.Limits{Limbs: c.limbs, Terms: c.terms})
		for range 2 {
			is(t, "Keep", m.Keep(c.p), c.want.Which)
			reads(t, m, 0, 0, c.want.Which, c.want.N)
		}
	}
}

// P11.1: noughts at a number's end are no limbs; what may not be is measured as it stands.
func TestKeepLoose(t *testing.T) {
	loose := api.Poly{
		{C: api.Int{Mag: limbs(2, 5)}, M: api.Mono{{Var: 1, Exp: 2}}},
		{C: api.Int{Neg: true, Mag: limbs(1, 9)}, M: api.Mono{{Var: 1, Exp: 1}}},
		{C: api.Int{Mag: []uint32{1, 0, 0}}},
	}
	nought := api.Poly{{C: api.Int{Mag: make([]uint32, 4)}}, {C: api.Int{Neg: true}, M: api.Mono{{Var: -1, Exp: -1}}}}
	same := api.Poly{poly(3)[0], poly(3)[0]}
	for _, c := range []struct {
		p             api.Poly
		longest, many int
	}{{loose, 2, 3}, {nought, 0, 2}, {same, 3, 2}} {
		if c.longest > 0 {
			m := made(t, api.Limits{Limbs: c.longest - 1, Terms: c.many})
			is(t, "Keep of too long a number", m.Keep(c.p), api.ErrLimbs)
			reads(t, m, 0, 0, api.ErrLimbs, c.longest)
		}
		m := made(t, api.Limits{Limbs: c.longest, Terms: c.many})
		is(t, "Keep", m.Keep(c.p), api.OK)
		reads(t, m, 0, 0, api.OK, 0)
		m = made(t, api.Limits{Limbs: c.longest, Terms: c.many - 1})
		is(t, "Keep of too many terms", m.Keep(c.p), api.ErrTerms)
		reads(t, m, 0, 0, api.ErrTerms, c.many)
	}
}

// refusals are calls that a meter of Fuel 1, Limbs 2, Terms 2, Pieces 1 refuses, once a step and a piece are counted, with what they need.
func refusals() []struct {
	call func(m *meter.Meter) api.Errno
	want api.Need
} {
	return []struct {
		call func(m *meter.Meter) api.Errno
		want api.Need
	}{
		{(*meter.Meter).Step, api.Need{Which: api.ErrFuel, N: 2}},
		{(*meter.Meter).Piece, api.Need{Which: api.ErrPieces, N: 2}},
		{func(m *meter.Meter) api.Errno { return m.Keep(poly(1, 7)) }, api.Need{Which: api.ErrLimbs, N: 7}},
		{func(m *meter.Meter) api.Errno { return m.Keep(poly(3)) }, api.Need{Which: api.ErrLimbs, N: 3}},
		{func(m *meter.Meter) api.Errno { return m.Keep(ones(6)) }, api.Need{Which: api.ErrTerms, N: 6}},
		{func(m *meter.Meter) api.Errno { return m.Keep(ones(4)) }, api.Need{Which: api.ErrTerms, N: 4}},
		{func(m *meter.Meter) api.Errno { return m.Refuse(api.ErrExp) }, api.Need{Which: api.ErrExp}},
	}
}

// P11.2: Need tells of the first call that refused, whichever others do so later.
func TestFirstRefusalStays(t *testing.T) {
	for _, first := range refusals() {
		for _, later := range refusals() {
			m := made(t, api.Limits{Fuel: 1, Limbs: 2, Terms: 2, Pieces: 1})
			is(t, "Step", m.Step(), api.OK)
			is(t, "Piece", m.Piece(), api.OK)
			is(t, "Keep", m.Keep(poly(2, 2)), api.OK)
			reads(t, m, 1, 1, api.OK, 0)
			is(t, "the first refusal", first.call(m), first.want.Which)
			reads(t, m, 1, 1, first.want.Which, first.want.N)
			is(t, "the later one", later.call(m), later.want.Which)
			reads(t, m, 1, 1, first.want.Which, first.want.N)
			is(t, "Keep", m.Keep(poly(2, 2)), api.OK) // what is within its bounds is not refused
			reads(t, m, 1, 1, first.want.Which, first.want.N)
		}
	}
}

// P11.2: Refuse answers what it is given; of all errors ErrExp alone is a refusal.
func TestRefuse(t *testing.T) {
	for _, e := range []api.Errno{api.OK, api.ErrNil, api.ErrArg, api.ErrLong, api.ErrForm, api.ErrNone, api.ErrTwice, api.ErrZero, api.ErrFuel, api.ErrLimbs, api.ErrTerms, api.ErrPieces, api.ErrMany, api.ErrKind, api.ErrSame, 16, -1, math.MaxInt, math.MinInt} {
		for _, r := range refusals() {
			m := made(t, api.Limits{Fuel: 1, Limbs: 2, Terms: 2, Pieces: 1})
			m.Step()
			m.Piece()
			is(t, "Refuse", m.Refuse(e), e)
			reads(t, m, 1, 1, api.OK, 0)
			is(t, "a refusal behind it", r.call(m), r.want.Which)
			reads(t, m, 1, 1, r.want.Which, r.want.N)
			is(t, "Refuse", m.Refuse(e), e)
			reads(t, m, 1, 1, r.want.Which, r.want.N)
		}
	}
	m := made(t, most())
	is(t, "Refuse", m.Refuse(api.ErrExp), api.ErrExp)
	reads(t, m, 0, 0, api.ErrExp, 0)
	is(t, "Step behind it", m.Step(), api.OK)
	is(t, "Piece behind it", m.Piece(), api.OK)
	reads(t, m, 1, 1, api.ErrExp, 0)
}

// A meter that is not there bounds nothing.
func TestNone(t *testing.T) {
	var m *meter.Meter
	for range 2 {
		for range 2000 {
			is(t, "Step", m.Step(), api.OK)
			is(t, "Piece", m.Piece(), api.OK)
		}
		for _, p := range []api.Poly{nil, poly(20000), ones(100001)} {
			is(t, "Keep", m.Keep(p), api.OK)
		}
		for e := range api.Errno(20) {
			is(t, "Refuse", m.Refuse(e-1), e-1)
		}
		if m.Limits() != (api.Limits{}) {
			t.Errorf("limits %v", m.Limits())
		}
		reads(t, m, 0, 0, api.OK, 0)
	}
}

// A zero meter is as one of limits 0.
func TestZero(t *testing.T) {
	for _, r := range refusals() {
		var zero meter.Meter
		m := made(t, api.Limits{})
		for _, x := range []*meter.Meter{m, &zero} {
			if x.Limits() != (api.Limits{}) {
				t.Errorf("limits %v", x.Limits())
			}
			is(t, "Keep of 0", x.Keep(nil), api.OK)
			reads(t, x, 0, 0, api.OK, 0)
		}
		if a, b := r.call(m), r.call(&zero); a != b || a == api.OK || m.Need() != zero.Need() {
			t.Errorf("errors %d and %d, needs %v and %v", a, b, m.Need(), zero.Need())
		}
		reads(t, &zero, 0, 0, zero.Need().Which, m.Need().N)
	}
	var zero meter.Meter
	is(t, "Step", zero.Step(), api.ErrFuel)
	is(t, "Piece", zero.Piece(), api.ErrPieces)
	is(t, "Keep", zero.Keep(poly(1)), api.ErrLimbs)
	reads(t, &zero, 0, 0, api.ErrFuel, 1)
}

// Each meter counts by itself, also of the same limits.
func TestTwoMeters(t *testing.T) {
	l := api.Limits{Fuel: 2, Limbs: 2, Terms: 2, Pieces: 2}
	a, b := made(t, l), made(t, l)
	a.Step()
	b.Piece()
	is(t, "Keep", a.Keep(poly(3)), api.ErrLimbs)
	reads(t, a, 1, 0, api.ErrLimbs, 3)
	reads(t, b, 0, 1, api.OK, 0)
	is(t, "Refuse", b.Refuse(api.ErrExp), api.ErrExp)
	reads(t, a, 1, 0, api.ErrLimbs, 3)
	reads(t, b, 0, 1, api.ErrExp, 0)
}

// What is handed in is not changed, also behind its length, and not kept.
func TestMemory(t *testing.T) {
	for _, bounds := range []int{0, 2, 9} {
		mag := append(limbs(3, 2), 77)
		m := made(t, api.Limits{Limbs: bounds, Terms: 9})
		p := api.Poly{{C: api.Int{Mag: mag[:5]}, M: api.Mono{{Var: 2, Exp: 3}, {Var: 7, Exp: 7}}[:1]}, {C: api.Int{Neg: true, Mag: []uint32{5}}}}
		m.Keep(p[:1])
		m.Keep(p[:1])
		if !slices.Equal(mag, append(limbs(3, 2), 77)) || len(p[0].C.Mag) != 5 || p[0].C.Neg || !slices.Equal(p[0].M[:2], api.Mono{{Var: 2, Exp: 3}, {Var: 7, Exp: 7}}) {
			t.Errorf("Keep made %v of it, with %v", p[0], mag)
		}
		if !p[1].C.Neg || !slices.Equal(p[1].C.Mag, []uint32{5}) || p[1].M != nil {
			t.Errorf("Keep made %v of what is behind it", p[1])
		}
		need := m.Need()
		clear(mag)
		clear(p)
		if m.Need() != need {
			t.Errorf("needs %v, was %v", m.Need(), need)
		}
		if m.Keep(p) != api.OK { // it has no limbs by now
			t.Errorf("Keep goes by what it was, not by what it is")
		}
		l := m.Limits()
		l.Limbs = 9999
		if m.Limits().Limbs != bounds {
			t.Errorf("limits %v", m.Limits())
		}
	}
}

// told is the chapter's meter, by its words.
type told struct {
	l              api.Limits
	fuel, pieces   int
	need           api.Need
	refusedAlready bool
}

func (w *told) refuse(e api.Errno, n int) api.Errno {
	if !w.refusedAlready {
		w.need, w.refusedAlready = api.Need{Which: e, N: n}, true
	}
	return e
}

// call does what a number stands for, to one that is told and to a meter, and tells both answers.
func (w *told) call(m *meter.Meter, which, size int) (got, want api.Errno) {
	switch which % 5 {
	case 0:
		if w.fuel == w.l.Fuel {
			return m.Step(), w.refuse(api.ErrFuel, w.l.Fuel+1)
		}
		w.fuel++
		return m.Step(), api.OK
	case 1:
		if w.pieces == w.l.Pieces {
			return m.Piece(), w.refuse(api.ErrPieces, w.l.Pieces+1)
		}
		w.pieces++
		return m.Piece(), api.OK
	case 2:
		e := api.Errno(size)
		if e == api.ErrExp {
			return m.Refuse(e), w.refuse(e, 0)
		}
		return m.Refuse(e), e
	case 3:
		if size > w.l.Limbs {
			return m.Keep(poly(size)), w.refuse(api.ErrLimbs, size)
		}
		if w.l.Terms == 0 {
			return m.Keep(poly(size)), w.refuse(api.ErrTerms, 1)
		}
		return m.Keep(poly(size)), api.OK
	}
	if size > 0 && w.l.Limbs == 0 {
		return m.Keep(ones(size)), w.refuse(api.ErrLimbs, 1)
	}
	if size > w.l.Terms {
		return m.Keep(ones(size)), w.refuse(api.ErrTerms, size)
	}
	return m.Keep(ones(size)), api.OK
}

// asTold calls what the bytes stand for, each time against the words.
func asTold(t *testing.T, l api.Limits, s []byte) api.Need {
	t.Helper()
	m, w := made(t, l), &told{l: l}
	for i, b := range s {
		got, want := w.call(m, int(b), int(b)/5%14)
		if got != want || m.Fuel() != w.fuel || m.Pieces() != w.pieces || m.Need() != w.need || m.Limits() != l {
			t.Fatalf("limits %v, call %d of %v: error %d, want %d; %d steps, want %d; %d pieces, want %d; needs %v, want %v", l, i, s, got, want, m.Fuel(), w.fuel, m.Pieces(), w.pieces, m.Need(), w.need)
		}
		if w.fuel > l.Fuel || w.pieces > l.Pieces {
			t.Fatalf("limits %v: %d steps, %d pieces", l, w.fuel, w.pieces)
		}
	}
	return m.Need()
}

// source tells bytes by a rule: the same ones at each run.
func source() func() byte {
	seed := uint64(0x9e3779b97f4a7c15)
	return func() byte {
		seed ^= seed << 13
		seed ^= seed >> 7
		seed ^= seed << 17
		return byte(seed >> 40)
	}
}

// P11.1, P11.2: calls in whatever order.
func TestManyCalls(t *testing.T) {
	next := source()
	for range 3000 {
		l := api.Limits{Fuel: int(next() % 6), Limbs: int(next() % 6), Terms: int(next() % 6), Pieces: int(next() % 6)}
		s := make([]byte, next()%40)
		for i := range s {
			s[i] = next()
		}
		asTold(t, l, s)
	}
}

// refusedAt tells at which of the calls a meter of these limits refuses first, or how many calls there are; and what it needs then.
func refusedAt(t *testing.T, l api.Limits, s []byte) (int, api.Need) {
	m, w := made(t, l), &told{l: l}
	for i, b := range s {
		w.call(m, int(b), int(b)/5%14)
		if m.Need().Which != api.OK {
			return i, m.Need()
		}
	}
	return len(s), api.Need{}
}

// What is refused by a limit is not refused there by one that is as great as Need tells; so in the end nothing is, but by ErrExp.
func TestNeedIsEnough(t *testing.T) {
	next := source()
	for range 500 {
		s := make([]byte, 30)
		for i := range s {
			s[i] = next()
		}
		var l api.Limits
		at, need := refusedAt(t, l, s)
		for need.Which != api.OK && need.Which != api.ErrExp {
			before := l
			switch need.Which {
			case api.ErrFuel:
				l.Fuel = need.N
			case api.ErrLimbs:
				l.Limbs = need.N
			case api.ErrTerms:
				l.Terms = need.N
			case api.ErrPieces:
				l.Pieces = need.N
			default:
				t.Fatalf("limits %v: needs %v", l, need)
			}
			later, again := refusedAt(t, l, s)
			if later < at || later == at && again.Which == need.Which {
				t.Fatalf("limits %v needs %v at call %d; limits %v needs %v at call %d", before, need, at, l, again, later)
			}
			at, need = later, again
		}
	}
}

func FuzzMeter(f *testing.F) {
	f.Add(1, 1, 1, 0, []byte{0, 0, 1, 13, 42, 44})
	f.Add(0, 0, 0, 0, []byte{2, 42, 3, 4, 8, 9})
	f.Add(-1, 10001, 100001, 1001, []byte{})
	f.Fuzz(func(t *testing.T, fuel, limbs, terms, pieces int, s []byte) {
		l := api.Limits{Fuel: fuel, Limbs: limbs, Terms: terms, Pieces: pieces}
		may := fuel >= 0 && fuel <= 1000000 && limbs >= 0 && limbs <= 10000 && terms >= 0 && terms <= 100000 && pieces >= 0 && pieces <= 1000
		if m, e := meter.New(l); may != (e == api.OK) || may != (m != nil) || !may && e != api.ErrArg {
			t.Fatalf("New(%v): error %d, %v", l, e, m)
		}
		if may {
			asTold(t, l, s)
		}
	})
}
