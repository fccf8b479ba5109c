package seal_test

import (
	"crypto/ed25519"
	"encoding/hex"
	"math/big"
	"strings"
	"testing"

	"holdall/seal"
)

func unhex(t *testing.T, s string) string {
	t.Helper()
	b, err := hex.DecodeString(s)
	if err != nil {
		t.Fatal(err)
	}
	return string(b)
}

func seedOf(i int) string {
	b := make([]byte, 32)
	for j := range b {
		b[j] = byte(i*31 + j*i)
	}
	return string(b)
}

// P6.1: what RFC 8032 says of three seeds.
func TestVectors(t *testing.T) {
	for _, v := range [][4]string{
		{"9d61b19deffd5a60ba844af492ec2cc44449c5697b326919703bac031cae7f60", "d75a980182b10ab7d54bfed3c964073a0ee172f3daa62325af021a68f707511a", "", "e5564300c360ac729086e2cc806e828a84877f1eb8e5d974d873e065224901555fb8821590a33bacc61e39701cf9b46bd25bf5f0595bbe24655141438e7a100b"},
		{"4ccd089b28ff96da9db6c346ec114e0f5b8a319f35aba624da8cf6ed4fb8a6fb", "3d4017c3e843895a92b70aa74d1b7ebc9c982ccf2ec4968cc0cd55f12af4660c", "72", "92a009a9f0d4cab8720e820b5f642540a2b27b5416503f8fb3762223ebdb69da085ac1e43e15996e458f3613d0f11d8c387b2eaeb4302aeeb00d291612bb0c00"},
		{"c5aa8df43f9f837bedb7442f31dcb7b166d38535076f094b85ce3a2e0b4458f7", "fc51cd8e6218a1a38da47ed00230f0580816ed13ba3303ac5deb911548908025", "af82", "6291d657deec24024827e69c3abe01a30ce548a284743a445e3680d7db5ac3ac18ff9b538d16f290ae67f760984dc6594a7c15e9716ed28dc027beceea1ec40a"},
	} {
		seed, key, msg, sig := unhex(t, v[0]), unhex(t, v[1]), unhex(t, v[2]), unhex(t, v[3])
		if got, ok := seal.Public(seed); !ok || got != key {
			t.Errorf("key of %s: %x, %v", v[0], got, ok)
		}
		if got, ok := seal.Sign(seed, msg); !ok || got != sig {
			t.Errorf("signature by %s: %x, %v", v[0], got, ok)
		}
		if !seal.Verify(msg, sig, key) {
			t.Errorf("signature by %s isn't told", v[0])
		}
	}
}

// P6.1, P6.3: messages of many lengths, about the blocks' ends of the sums too.
func TestSign(t *testing.T) {
	lengths := []int{0, 1, 15, 16, 30, 31, 47, 48, 49, 50, 55, 63, 64, 79, 80, 95, 96, 111, 127, 128, 1000, 20000}
	for i, n := range lengths {
		seed, msg := seedOf(i), strings.Repeat("m", n)
		private := ed25519.NewKeyFromSeed([]byte(seed))
		key, ok := seal.Public(seed)
		if !ok || key != string(private.Public().(ed25519.PublicKey)) {
			t.Errorf("key %d: %x, %v", i, key, ok)
		}
		sig, ok := seal.Sign(seed, msg)
		if !ok || sig != string(ed25519.Sign(private, []byte(msg))) {
			t.Errorf("signature %d: %x, %v", i, sig, ok)
		}
		if !seal.Verify(msg, sig, key) || seal.Verify(msg+"m", sig, key) {
			t.Errorf("signature %d isn't told", i)
		}
	}
}

// P6.1: seeds of another length have nothing.
func TestSeedWrong(t *testing.T) {
	for _, n := range []int{0, 1, 31, 33, 64} {
		seed := strings.Repeat("s", n)
		if got, ok := seal.Public(seed); ok || got != "" {
			t.Errorf("key of %d bytes: %x, %v", n, got, ok)
		}
		if got, ok := seal.Sign(seed, "m"); ok || got != "" {
			t.Errorf("signature by %d bytes: %x, %v", n, got, ok)
		}
	}
}

// P6.2: another bit anywhere, another length anywhere.
func TestVerifyWrong(t *testing.T) {
	seed := strings.Repeat("\x07", 32)
	key, _ := seal.Public(seed)
	sig, _ := seal.Sign(seed, "hello")
	if !seal.Verify("hello", sig, key) || seal.Verify("hellp", sig, key) || seal.Verify("", sig, key) {
		t.Error("the chapter's example")
	}
	for i := 0; i < 8*64; i += 3 {
		b := []byte(sig)
		b[i/8] ^= 1 << (i % 8)
		if seal.Verify("hello", string(b), key) {
			t.Errorf("bit %d of the signature turned", i)
		}
	}
	for i := 0; i < 8*32; i += 5 {
		b := []byte(key)
		b[i/8] ^= 1 << (i % 8)
		if seal.Verify("hello", sig, string(b)) {
			t.Errorf("bit %d of the key turned", i)
		}
	}
	for _, s := range []string{"", sig[:63], sig + "\x00", sig[:32], sig + sig} {
		if seal.Verify("hello", s, key) {
			t.Errorf("a signature of %d bytes", len(s))
		}
	}
	for _, k := range []string{"", key[:31], key + "\x00", key + key} {
		if seal.Verify("hello", sig, k) {
			t.Errorf("a key of %d bytes", len(k))
		}
	}
	other, _ := seal.Public(seedOf(1))
	if seal.Verify("hello", sig, other) {
		t.Error("another's key")
	}
}

// P6.2: S must be below the order: with the order added it stands for the same multiple, but isn't taken.
func TestVerifyOrder(t *testing.T) {
	order, _ := new(big.Int).SetString("7237005577332262213973186563042994240857116359379907606001950938285454250989", 10)
	seed := seedOf(3)
	key, _ := seal.Public(seed)
	sig, _ := seal.Sign(seed, "hello")
	b := make([]byte, 32)
	for i := range b {
		b[31-i] = sig[32+i]
	}
	big := new(big.Int).Add(new(big.Int).SetBytes(b), order).FillBytes(make([]byte, 32))
	second := make([]byte, 32)
	for i := range second {
		second[i] = big[31-i]
	}
	if seal.Verify("hello", sig[:32]+string(second), key) {
		t.Error("a number above the order was taken")
	}
}

// P6.2: bytes that are no point, though y's number, reduced, is one of a point.
func TestVerifyPoints(t *testing.T) {
	zero := "\x01" + strings.Repeat("\x00", 31)
	naught := strings.Repeat("\x00", 32)
	// By the zero point as key, R zero and S 0, everything is signed.
	if !seal.Verify("any", zero+naught, zero) {
		t.Error("the zero point's signature")
	}
	high := zero[:31] + "\x80"
	above := "\xee" + strings.Repeat("\xff", 30) + "\x7f"
	for _, bad := range []string{high, above, "\x02" + naught[1:]} {
		if seal.Verify("any", bad+naught, zero) {
			t.Errorf("R %x was taken", bad)
		}
		if seal.Verify("any", zero+naught, bad) {
			t.Errorf("key %x was taken", bad)
		}
	}
}

// P6.2: points of small order: the equation is held as it stands, not eight times.
func TestVerifySmallOrder(t *testing.T) {
	zero := "\x01" + strings.Repeat("\x00", 31)
	naught := strings.Repeat("\x00", 32)
	half := "\xec" + strings.Repeat("\xff", 30) + "\x7f" // twice it is zero
	if seal.Verify("any", half+naught, zero) {
		t.Error("R of order 2 with S 0 was taken as zero")
	}
}
