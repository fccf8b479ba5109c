package point_test

import (
	"crypto/ed25519"
	"crypto/sha512"
	"math/big"
	"math/rand"
	"strings"
	"testing"

	"holdall/api"
	"holdall/point"
)

var order = new(big.Int).Sub(new(big.Int).Lsh(big.NewInt(1), 255), big.NewInt(19))

func toBig(a api.Num) *big.Int {
	b := make([]byte, 32)
	for i := range a {
		b[31-i] = a[i]
	}
	return new(big.Int).SetBytes(b)
}

func num(n *big.Int) api.Num {
	b := new(big.Int).Mod(n, new(big.Int).Lsh(big.NewInt(1), 256)).FillBytes(make([]byte, 32))
	var a api.Num
	for i := range a {
		a[i] = b[31-i]
	}
	return a
}

func small(n int64) api.Num { return num(big.NewInt(n)) }

func rest(n *big.Int) *big.Int { return new(big.Int).Mod(n, order) }
func mul(a, b *big.Int) *big.Int {
	return rest(new(big.Int).Mul(a, b))
}
func add(a, b *big.Int) *big.Int { return rest(new(big.Int).Add(a, b)) }
func sub(a, b *big.Int) *big.Int { return rest(new(big.Int).Sub(a, b)) }
func inv(a *big.Int) *big.Int {
	return new(big.Int).Exp(rest(a), new(big.Int).Sub(order, big.NewInt(2)), order)
}

var d = mul(big.NewInt(-121665), inv(big.NewInt(121666)))

// four are a point's numbers, reduced.
type four struct{ x, y, z, t *big.Int }

func fourOf(p api.Point) four {
	return four{rest(toBig(p.X)), rest(toBig(p.Y)), rest(toBig(p.Z)), rest(toBig(p.T))}
}

func (f four) point() api.Point {
	return api.Point{X: num(f.x), Y: num(f.y), Z: num(f.z), T: num(f.t)}
}

// sum is the chapter's, in big numbers.
func (p four) sum(q four) four {
	a := mul(sub(p.y, p.x), sub(q.y, q.x))
	b := mul(add(p.y, p.x), add(q.y, q.x))
	c := mul(mul(mul(p.t, big.NewInt(2)), d), q.t)
	e := mul(mul(big.NewInt(2), p.z), q.z)
	f, g, h, i := sub(b, a), sub(e, c), add(e, c), add(b, a)
	return four{mul(f, g), mul(h, i), mul(g, h), mul(f, i)}
}

func (p four) on() bool {
	x, y, z, t := p.x, p.y, p.z, p.t
	return z.Sign() != 0 && mul(t, z).Cmp(mul(x, y)) == 0 && sub(mul(y, y), mul(x, x)).Cmp(add(mul(z, z), mul(d, mul(t, t)))) == 0
}

// points are some of the curve, with other denominators too.
func points() []api.Point {
	l := []api.Point{point.Zero(), point.Base(), point.Neg(point.Base())}
	// y is -1; y is 0 (x is a root of -1): points of small order.
	for _, s := range []string{"\xec" + strings.Repeat("\xff", 30) + "\x7f", strings.Repeat("\x00", 32), strings.Repeat("\x00", 31) + "\x80"} {
		p, ok := point.Unpack(s)
		if !ok {
			panic("no point")
		}
		l = append(l, p)
	}
	r := rand.New(rand.NewSource(8))
	for i := 0; i < 5; i++ {
		var n api.Num
		r.Read(n[:])
		l = append(l, point.Times(n, point.Base()))
	}
	return l
}

// strange are points of any numbers.
func strange() []api.Point {
	r := rand.New(rand.NewSource(9))
	full := small(-1)
	l := []api.Point{{}, {X: full, Y: full, Z: full, T: full}, {X: num(order), Y: num(order), Z: num(order), T: num(order)}, {Z: small(1)}, {Y: small(1)}, {T: small(1), Z: small(1)}}
	for i := 0; i < 8; i++ {
		var p api.Point
		r.Read(p.X[:])
		r.Read(p.Y[:])
		r.Read(p.Z[:])
		r.Read(p.T[:])
		l = append(l, p)
	}
	return l
}

// unreduced is the same point with numbers above the order, where they have room.
func unreduced(p api.Point) api.Point {
	return api.Point{X: num(new(big.Int).Add(toBig(p.X), order)), Y: num(new(big.Int).Add(toBig(p.Y), order)), Z: num(new(big.Int).Add(toBig(p.Z), order)), T: num(new(big.Int).Add(toBig(p.T), order))}
}

// P5.1: Base and Unpack of its bytes.
func TestBase(t *testing.T) {
	bytes := "\x58" + strings.Repeat("\x66", 31)
	p, ok := point.Unpack(bytes)
	if !ok || p != point.Base() {
		t.Error("Base isn't Unpack of its bytes")
	}
	if toBig(p.Y).Cmp(mul(big.NewInt(4), inv(big.NewInt(5)))) != 0 || p.X[0]&1 != 0 || p.Z != small(1) || num(mul(toBig(p.X), toBig(p.Y))) != p.T || !fourOf(p).on() {
		t.Error("Base's numbers are wrong")
	}
	if point.Pack(p) != bytes {
		t.Error("Base's bytes are others")
	}
}

// unpack is the chapter's, in big numbers.
func unpack(s string) (api.Point, bool) {
	if len(s) != 32 {
		return api.Point{}, false
	}
	var a api.Num
	copy(a[:], s)
	odd := a[31] >= 128
	a[31] &= 127
	y := toBig(a)
	if y.Cmp(order) >= 0 {
		return api.Point{}, false
	}
	yy := mul(y, y)
	one := big.NewInt(1)
	x := new(big.Int).ModSqrt(mul(sub(yy, one), inv(add(mul(d, yy), one))), order)
	if x == nil || odd && x.Sign() == 0 {
		return api.Point{}, false
	}
	if x.Bit(0) == 1 {
		x.Sub(order, x)
	}
	if odd {
		x.Sub(order, x)
	}
	return four{x, y, one, mul(x, y)}.point(), true
}

func checkUnpack(t *testing.T, s string) bool {
	t.Helper()
	got, ok := point.Unpack(s)
	want, wok := unpack(s)
	if got != want || ok != wok {
		t.Errorf("Unpack of %x: %v, %v", s, got, ok)
	}
	return ok
}

// P5.1: bytes of points and of none.
func TestUnpack(t *testing.T) {
	for _, n := range []int{0, 1, 31, 33, 64} {
		if checkUnpack(t, strings.Repeat("\x01", n)) {
			t.Errorf("%d bytes are a point", n)
		}
	}
	bytesOf := func(n *big.Int) string { a := num(n); return string(a[:]) }
	top := new(big.Int).Lsh(big.NewInt(1), 255)
	for n := int64(-3); n < 20; n++ {
		y := new(big.Int).Add(order, big.NewInt(n))
		checkUnpack(t, bytesOf(y))
		checkUnpack(t, bytesOf(y.Add(y, top)))
		checkUnpack(t, bytesOf(big.NewInt(n)))
	}
	// x is 0 with its highest bit 1: no point.
	one := "\x01" + strings.Repeat("\x00", 31)
	if !checkUnpack(t, one) || checkUnpack(t, one[:31]+"\x80") {
		t.Error("the zero point's bytes")
	}
	minus := "\xec" + strings.Repeat("\xff", 30)
	if !checkUnpack(t, minus+"\x7f") || checkUnpack(t, minus+"\xff") {
		t.Error("the bytes of y -1")
	}
	r := rand.New(rand.NewSource(10))
	b := make([]byte, 32)
	yes := 0
	for i := 0; i < 60; i++ {
		r.Read(b)
		if checkUnpack(t, string(b)) {
			yes++
			if p, _ := point.Unpack(string(b)); point.Pack(p) != string(b) {
				t.Error("a point has other bytes than it came from")
			}
		}
	}
	if yes < 10 || yes > 50 {
		t.Errorf("%d of 60 are points", yes)
	}
}

// P5.2: Zero, On, Same, of any numbers.
func TestOnAndSame(t *testing.T) {
	if point.Zero() != (api.Point{Y: small(1), Z: small(1)}) {
		t.Error("Zero has other numbers")
	}
	l := append(points(), strange()...)
	for _, p := range points() {
		l = append(l, unreduced(p))
		q := p
		q.T = num(add(toBig(q.T), big.NewInt(1)))
		l = append(l, q)
		q = p
		q.X = num(add(toBig(q.X), big.NewInt(1)))
		l = append(l, q)
		q = p
		q.Y, q.T = num(mul(toBig(q.Y), big.NewInt(2))), num(mul(toBig(q.T), big.NewInt(2)))
		l = append(l, q)
	}
	for _, p := range l {
		if point.On(p) != fourOf(p).on() {
			t.Errorf("On of %v: %v", p, point.On(p))
		}
		for _, q := range l {
			a, b := fourOf(p), fourOf(q)
			want := mul(a.x, b.z).Cmp(mul(b.x, a.z)) == 0 && mul(a.y, b.z).Cmp(mul(b.y, a.z)) == 0
			if point.Same(p, q) != want {
				t.Errorf("Same of %v and %v", p, q)
			}
		}
	}
}

// P5.2: what has all but one of what a point of the curve needs.
func TestOnWrong(t *testing.T) {
	base := point.Base()
	off := base
	off.T = num(add(toBig(off.T), big.NewInt(1)))
	// T Z is X Y, but the curve's sum is wrong.
	other := api.Point{X: small(2), Y: small(3), Z: small(1), T: small(6)}
	none := api.Point{X: small(0), Y: small(0), Z: small(0), T: small(0)}
	// Z is the order itself, which leaves 0.
	order0 := api.Point{X: small(5), Y: small(5), Z: num(order)}
	for _, p := range []api.Point{off, other, none, order0} {
		if point.On(p) {
			t.Errorf("On of %v", p)
		}
	}
	if !point.On(base) || !point.On(unreduced(base)) || !point.On(point.Zero()) {
		t.Error("a point isn't on the curve")
	}
	turned := point.Neg(base)
	if point.Same(base, turned) || !point.Same(base, unreduced(base)) {
		t.Error("Same of a point and its turned one")
	}
	// x alone, or y alone, doesn't make them the same.
	p := base
	p.Y = num(sub(big.NewInt(0), toBig(p.Y)))
	if point.Same(base, p) {
		t.Error("Same, but y is another")
	}
}

// P5.2: sums by the chapter's formula, their numbers too, of any points.
func TestAddAndNeg(t *testing.T) {
	l := append(points(), strange()...)
	for _, p := range l {
		for _, q := range l {
			if got, want := point.Add(p, q), fourOf(p).sum(fourOf(q)).point(); got != want {
				t.Fatalf("Add of %v and %v: %v", p, q, got)
			}
		}
		f := fourOf(p)
		zero := big.NewInt(0)
		if got, want := point.Neg(p), (four{sub(zero, f.x), f.y, f.z, sub(zero, f.t)}).point(); got != want {
			t.Errorf("Neg of %v: %v", p, got)
		}
	}
}

// times is the chapter's, in big numbers.
func times(n api.Num, p api.Point) api.Point {
	out := four{big.NewInt(0), big.NewInt(1), big.NewInt(1), big.NewInt(0)}
	q := fourOf(p)
	for i := 255; i >= 0; i-- {
		out = out.sum(out)
		if n[i/8]>>(i%8)&1 == 1 {
			out = out.sum(q)
		}
	}
	return out.point()
}

// P5.2: multiples by the chapter's steps, their numbers too, of any points.
func TestTimes(t *testing.T) {
	r := rand.New(rand.NewSource(11))
	numbers := []api.Num{small(0), small(1), small(2), small(3), small(255), small(256), small(-1), num(new(big.Int).Lsh(big.NewInt(1), 255)), num(order)}
	for i := 0; i < 3; i++ {
		var n api.Num
		r.Read(n[:])
		numbers = append(numbers, n)
	}
	l := append([]api.Point{point.Base(), point.Zero(), points()[4]}, strange()[:9]...)
	for _, p := range l {
		for _, n := range numbers {
			if got := point.Times(n, p); got != times(n, p) {
				t.Errorf("Times of %v and %v: %v", toBig(n), p, got)
			}
		}
	}
}

// P5.2: the bytes of points whose Z is anything.
func TestPack(t *testing.T) {
	for _, p := range append(points(), strange()...) {
		f := fourOf(p)
		x, y := mul(f.x, inv(f.z)), mul(f.y, inv(f.z))
		want := num(y)
		want[31] |= byte(x.Bit(0)) << 7
		if got := point.Pack(p); got != string(want[:]) {
			t.Errorf("Pack of %v: %x", p, got)
		}
	}
	if point.Pack(point.Zero()) != "\x01"+strings.Repeat("\x00", 31) {
		t.Error("Zero's bytes")
	}
}

// P5.2: multiples of the base are the keys that others know.
func TestKeys(t *testing.T) {
	for i := 0; i < 5; i++ {
		seed := strings.Repeat(string([]byte{byte(i)}), 32)
		sum := sha512.Sum512([]byte(seed))
		var n api.Num
		copy(n[:], sum[:])
		n[0] &= 248
		n[31] = n[31]&127 | 64
		want := ed25519.NewKeyFromSeed([]byte(seed)).Public().(ed25519.PublicKey)
		if got := point.Pack(point.Times(n, point.Base())); got != string(want) {
			t.Errorf("key %d: %x", i, got)
		}
	}
}

// P5.3: sums of points are points, whatever the order, and the same just if their bytes are.
func TestTogether(t *testing.T) {
	l := points()
	for i, p := range l {
		for j, q := range l {
			sum := point.Add(p, q)
			r := l[(i+2*j+1)%len(l)]
			if !point.On(sum) || !point.Same(sum, point.Add(q, p)) {
				t.Errorf("the sum of %v and %v", p, q)
			}
			if !point.Same(point.Add(sum, r), point.Add(p, point.Add(q, r))) {
				t.Error("how sums are put together counts")
			}
			if point.Same(sum, r) != (point.Pack(sum) == point.Pack(r)) || point.Same(p, q) != (point.Pack(p) == point.Pack(q)) {
				t.Error("the same have other bytes, or others the same")
			}
		}
		if !point.Same(point.Add(p, point.Neg(p)), point.Zero()) || !point.Same(point.Add(p, point.Zero()), p) {
			t.Errorf("%v and what is turned", p)
		}
	}
	base := point.Base()
	if !point.Same(point.Add(base, base), point.Times(small(2), base)) || !point.Same(point.Add(base, point.Neg(base)), point.Zero()) {
		t.Error("the chapter's examples")
	}
}
