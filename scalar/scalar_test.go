package scalar_test

import (
	"math/big"
	"math/rand"
	"strings"
	"testing"

	"holdall/api"
	"holdall/scalar"
)

var order, _ = new(big.Int).SetString("7237005577332262213973186563042994240857116359379907606001950938285454250989", 10)

// toBig is the number of bytes, the lowest first.
func toBig(s string) *big.Int {
	b := make([]byte, len(s))
	for i := range b {
		b[len(b)-1-i] = s[i]
	}
	return new(big.Int).SetBytes(b)
}

func bigOf(a api.Num) *big.Int { return toBig(string(a[:])) }

// low is n's rest by 2^(8 size), the lowest byte first.
func low(n *big.Int, size int) string {
	b := new(big.Int).Mod(n, new(big.Int).Lsh(big.NewInt(1), uint(8*size))).FillBytes(make([]byte, size))
	for i := 0; i < size/2; i++ {
		b[i], b[size-1-i] = b[size-1-i], b[i]
	}
	return string(b)
}

func num(n *big.Int) api.Num {
	var a api.Num
	copy(a[:], low(n, 32))
	return a
}

func small(n int64) api.Num { return num(big.NewInt(n)) }

// near is m times the order, and n more.
func near(m, n int64) *big.Int {
	return new(big.Int).Add(new(big.Int).Mul(order, big.NewInt(m)), big.NewInt(n))
}

func samples() []api.Num {
	l := []api.Num{small(0), small(1), small(2), small(3), small(5), small(7), small(-1), small(-2)}
	for m := int64(1); m < 16; m += 2 {
		l = append(l, num(near(m, -1)), num(near(m, 0)), num(near(m, 1)))
	}
	for i := uint(63); i < 256; i += 21 {
		one := new(big.Int).Lsh(big.NewInt(1), i)
		l = append(l, num(one), num(new(big.Int).Sub(one, big.NewInt(1))))
	}
	for i := uint(252); i < 256; i++ {
		l = append(l, num(new(big.Int).Lsh(big.NewInt(1), i)))
	}
	r := rand.New(rand.NewSource(5))
	for i := 0; i < 15; i++ {
		var a api.Num
		r.Read(a[:])
		l = append(l, a)
	}
	return l
}

func check(t *testing.T, what string, got api.Num, want *big.Int) {
	t.Helper()
	if got != num(new(big.Int).Mod(want, order)) {
		t.Errorf("%s: %v, want %v", what, bigOf(got), new(big.Int).Mod(want, order))
	}
}

// P4.1
func TestCanon(t *testing.T) {
	for _, a := range samples() {
		if scalar.Canon(a) != (bigOf(a).Cmp(order) < 0) {
			t.Errorf("Canon of %v", bigOf(a))
		}
	}
	if !scalar.Canon(num(near(1, -1))) || scalar.Canon(num(near(1, 0))) || scalar.Canon(small(-1)) || !scalar.Canon(small(0)) {
		t.Error("Canon about the order")
	}
}

// P4.1: the whole of the 64 bytes counts.
func TestWide(t *testing.T) {
	check64 := func(n *big.Int) {
		t.Helper()
		got, ok := scalar.Wide(low(n, 64))
		if !ok {
			t.Errorf("Wide of %v: false", n)
		}
		check(t, "Wide", got, n)
	}
	for i := uint(0); i < 512; i++ {
		one := new(big.Int).Lsh(big.NewInt(1), i)
		check64(one)
		check64(new(big.Int).Sub(one, big.NewInt(1)))
	}
	check64(new(big.Int).Sub(new(big.Int).Lsh(big.NewInt(1), 512), big.NewInt(1)))
	for _, m := range []int64{1, 2, 15, 16, 1 << 40, 1<<62 + 12345} {
		for n := int64(-2); n < 3; n++ {
			check64(near(m, n))
			check64(new(big.Int).Add(new(big.Int).Mul(near(m&63, 0), order), big.NewInt(n+2)))
		}
	}
	r := rand.New(rand.NewSource(6))
	b := make([]byte, 64)
	for i := 0; i < 500; i++ {
		r.Read(b)
		check64(toBig(string(b)))
	}
}

// P4.1: other lengths have no number.
func TestWideWrong(t *testing.T) {
	for _, n := range []int{0, 1, 31, 32, 33, 63, 65, 128, 1000} {
		got, ok := scalar.Wide(strings.Repeat("\x01", n))
		if ok || got != (api.Num{}) {
			t.Errorf("Wide of %d bytes: %v, %v", n, bigOf(got), ok)
		}
	}
	if got, ok := scalar.Wide(strings.Repeat("\x00", 64)); !ok || got != small(0) {
		t.Error("Wide of 64 bytes 0 isn't 0")
	}
}

// P4.2
func TestFuse(t *testing.T) {
	if scalar.Fuse(small(3), small(5), small(7)) != small(22) {
		t.Error("3 times 5 and 7 isn't 22")
	}
	l := samples()
	for i, a := range l {
		for j, b := range l {
			for _, c := range []api.Num{l[(i+j)%len(l)], small(-1), small(0)} {
				want := new(big.Int).Mul(bigOf(a), bigOf(b))
				check(t, "Fuse", scalar.Fuse(a, b, c), want.Add(want, bigOf(c)))
			}
		}
	}
}

// P4.2: many numbers.
func TestManyFuses(t *testing.T) {
	r := rand.New(rand.NewSource(7))
	for i := 0; i < 2000; i++ {
		var a, b, c api.Num
		r.Read(a[:])
		r.Read(b[:])
		r.Read(c[:])
		want := new(big.Int).Mul(bigOf(a), bigOf(b))
		check(t, "Fuse", scalar.Fuse(a, b, c), want.Add(want, bigOf(c)))
	}
}

// P4.3: sums and products go together.
func TestTogether(t *testing.T) {
	l := samples()
	one, zero := small(1), small(0)
	for i := range l {
		a, b, c := l[i], l[(i*7+1)%len(l)], l[(i*5+2)%len(l)]
		sum := scalar.Fuse(b, one, c)
		if scalar.Fuse(a, sum, zero) != scalar.Fuse(a, b, scalar.Fuse(a, c, zero)) {
			t.Error("a product of a sum isn't the products' sum")
		}
		if scalar.Fuse(a, b, zero) != scalar.Fuse(b, a, zero) || sum != scalar.Fuse(c, one, b) {
			t.Error("the order counts")
		}
		if scalar.Fuse(scalar.Fuse(a, b, zero), c, zero) != scalar.Fuse(a, scalar.Fuse(b, c, zero), zero) {
			t.Error("how a product is put together counts")
		}
	}
}
