package field_test

import (
	"math/big"
	"math/rand"
	"testing"

	"holdall/api"
	"holdall/field"
)

var order = new(big.Int).Sub(new(big.Int).Lsh(big.NewInt(1), 255), big.NewInt(19))

// toBig is a number as it is, not reduced.
func toBig(a api.Num) *big.Int {
	b := make([]byte, 32)
	for i := range a {
		b[31-i] = a[i]
	}
	return new(big.Int).SetBytes(b)
}

// num is n's rest by 2^256.
func num(n *big.Int) api.Num {
	b := new(big.Int).Mod(n, new(big.Int).Lsh(big.NewInt(1), 256)).FillBytes(make([]byte, 32))
	var a api.Num
	for i := range a {
		a[i] = b[31-i]
	}
	return a
}

func small(n int64) api.Num { return num(big.NewInt(n)) }

// near is m times the order, and n more.
func near(m, n int64) api.Num {
	return num(new(big.Int).Add(new(big.Int).Mul(order, big.NewInt(m)), big.NewInt(n)))
}

// samples are the edges, and others.
func samples() []api.Num {
	l := []api.Num{small(0), small(1), small(2), small(4), small(18), small(19), small(37), small(38), small(39), small(-1), small(-2), small(-37), small(-38), small(-39)}
	for n := int64(-3); n < 4; n++ {
		l = append(l, near(1, n), near(2, n))
	}
	for i := 0; i < 256; i += 17 {
		l = append(l, num(new(big.Int).Lsh(big.NewInt(1), uint(i))))
	}
	for i := uint(64); i < 256; i += 64 {
		one := new(big.Int).Lsh(big.NewInt(1), i)
		l = append(l, num(one), num(new(big.Int).Sub(one, big.NewInt(1))), num(new(big.Int).Neg(one)))
	}
	r := rand.New(rand.NewSource(3))
	for i := 0; i < 25; i++ {
		var a api.Num
		r.Read(a[:])
		l = append(l, a)
	}
	return l
}

func check(t *testing.T, what string, got api.Num, want *big.Int) {
	t.Helper()
	if got != num(new(big.Int).Mod(want, order)) {
		t.Errorf("%s: %v, want %v", what, toBig(got), new(big.Int).Mod(want, order))
	}
}

// P3.1
func TestCanonReduceNeg(t *testing.T) {
	for _, a := range samples() {
		if field.Canon(a) != (toBig(a).Cmp(order) < 0) {
			t.Errorf("Canon of %v", toBig(a))
		}
		check(t, "Reduce", field.Reduce(a), toBig(a))
		check(t, "Neg", field.Neg(a), new(big.Int).Neg(toBig(a)))
	}
	if field.Neg(small(0)) != small(0) || field.Neg(near(1, 0)) != small(0) || field.Neg(near(2, 0)) != small(0) {
		t.Error("Neg of 0 isn't 0")
	}
	if !field.Canon(near(1, -1)) || field.Canon(near(1, 0)) || field.Canon(small(-1)) {
		t.Error("Canon about the order")
	}
}

// P3.2
func TestSumsAndProducts(t *testing.T) {
	l := samples()
	for _, a := range l {
		for _, b := range l {
			x, y := toBig(a), toBig(b)
			check(t, "Add", field.Add(a, b), new(big.Int).Add(x, y))
			check(t, "Sub", field.Sub(a, b), new(big.Int).Sub(x, y))
			check(t, "Mul", field.Mul(a, b), new(big.Int).Mul(x, y))
		}
	}
}

// P3.2: products of many numbers.
func TestManyProducts(t *testing.T) {
	r := rand.New(rand.NewSource(4))
	for i := 0; i < 20000; i++ {
		var a, b api.Num
		r.Read(a[:])
		r.Read(b[:])
		check(t, "Mul", field.Mul(a, b), new(big.Int).Mul(toBig(a), toBig(b)))
		check(t, "Add", field.Add(a, b), new(big.Int).Add(toBig(a), toBig(b)))
	}
}

// P3.3
func TestPower(t *testing.T) {
	l := samples()
	for i, a := range l {
		for j := 0; j < len(l); j += 3 {
			n := l[(i+j)%len(l)]
			check(t, "Power", field.Power(a, n), new(big.Int).Exp(toBig(a), toBig(n), order))
		}
		check(t, "Power of 0", field.Power(a, small(0)), big.NewInt(1))
		check(t, "Power of 1", field.Power(a, small(1)), toBig(a))
	}
	check(t, "a number's power counts whole, not its rest", field.Power(small(3), near(1, 0)), big.NewInt(3))
}

// P3.3
func TestInv(t *testing.T) {
	for _, a := range samples() {
		got := field.Inv(a)
		x := new(big.Int).Mod(toBig(a), order)
		if x.Sign() == 0 {
			check(t, "Inv of 0", got, big.NewInt(0))
			continue
		}
		check(t, "Inv", got, new(big.Int).ModInverse(x, order))
	}
	if field.Mul(small(7), field.Inv(small(7))) != small(1) {
		t.Error("7 by 7 isn't 1")
	}
}

func checkRoot(t *testing.T, a api.Num) bool {
	t.Helper()
	got, ok := field.Root(a)
	x := new(big.Int).Mod(toBig(a), order)
	want := new(big.Int).ModSqrt(x, order)
	if want == nil {
		if ok || got != (api.Num{}) {
			t.Errorf("Root of %v: %v, %v", x, toBig(got), ok)
		}
		return false
	}
	if want.Bit(0) == 1 {
		want.Sub(order, want)
	}
	if !ok || got != num(want) {
		t.Errorf("Root of %v: %v, %v, want %v", x, toBig(got), ok, want)
	}
	return true
}

// P3.3: the examples, and roots of squares, and of what is none.
func TestRoot(t *testing.T) {
	if got, ok := field.Root(small(4)); !ok || got != small(2) {
		t.Error("Root of 4 isn't 2")
	}
	if got, ok := field.Root(small(2)); ok || got != small(0) {
		t.Error("2 has a root")
	}
	for _, zero := range []api.Num{small(0), near(1, 0), near(2, 0)} {
		if got, ok := field.Root(zero); !ok || got != small(0) {
			t.Error("Root of 0 isn't 0")
		}
	}
	for _, a := range samples() {
		checkRoot(t, a)
		checkRoot(t, field.Mul(a, a))
		checkRoot(t, field.Neg(field.Mul(a, a)))
	}
}

// P3.4: of a number that leaves something just one of it and its double has a root.
func TestRootOfDouble(t *testing.T) {
	for _, a := range samples() {
		if field.Reduce(a) == small(0) {
			continue
		}
		_, one := field.Root(a)
		_, two := field.Root(field.Add(a, a))
		if one == two {
			t.Errorf("%v and its double: %v", toBig(a), one)
		}
	}
}

// P3.4: sums and products go together.
func TestTogether(t *testing.T) {
	l := samples()
	for i := range l {
		a, b, c := l[i], l[(i*7+1)%len(l)], l[(i*5+2)%len(l)]
		if field.Mul(a, field.Add(b, c)) != field.Add(field.Mul(a, b), field.Mul(a, c)) {
			t.Error("a product of a sum isn't the products' sum")
		}
		if field.Add(field.Sub(a, b), b) != field.Reduce(a) || field.Add(a, field.Neg(a)) != small(0) {
			t.Error("what was taken away doesn't come back")
		}
		if field.Mul(field.Mul(a, b), c) != field.Mul(a, field.Mul(b, c)) || field.Mul(a, b) != field.Mul(b, a) {
			t.Error("the order of a product counts")
		}
	}
}
