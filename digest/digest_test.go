package digest_test

import (
	"crypto/sha256"
	"encoding/hex"
	"strings"
	"testing"

	"holdall/digest"
)

// text is n bytes of all kinds.
func text(n int) string {
	b := make([]byte, n)
	for i := range b {
		b[i] = byte(i*7 + i/251)
	}
	return string(b)
}

func checkSum(t *testing.T, s string) {
	t.Helper()
	want := sha256.Sum256([]byte(s))
	if got := digest.Sum(s); got != string(want[:]) {
		t.Errorf("sum of %d bytes: %x, want %x", len(s), got, want)
	}
}

// P1.1: the chapter's examples.
func TestSumExamples(t *testing.T) {
	want := "ba7816bf8f01cfea414140de5dae2223b00361a396177a9cb410ff61f20015ad"
	if got := hex.EncodeToString([]byte(digest.Sum("abc"))); got != want {
		t.Errorf("abc: %s", got)
	}
	want = "e3b0c44298fc1c149afbf4c8996fb92427ae41e4649b934ca495991b7852b855"
	if got := hex.EncodeToString([]byte(digest.Sum(""))); got != want {
		t.Errorf("nothing: %s", got)
	}
}

// P1.1: every length about the blocks' ends.
func TestSumLengths(t *testing.T) {
	for n := 0; n <= 300; n++ {
		checkSum(t, text(n))
	}
	for _, n := range []int{1000, 8191, 8192, 65536, 1<<20 - 1, 1 << 20} {
		checkSum(t, text(n))
	}
}

// P1.1: bytes of one value, and each byte alone.
func TestSumBytes(t *testing.T) {
	for b := 0; b < 256; b++ {
		checkSum(t, string([]byte{byte(b)}))
		checkSum(t, strings.Repeat(string([]byte{byte(b)}), 64+b%3))
	}
}

// P1.1: a sum is of its message alone, not of those ahead.
func TestSumAgain(t *testing.T) {
	first := digest.Sum("one")
	digest.Sum(text(500))
	if digest.Sum("one") != first {
		t.Error("a sum changed")
	}
}

// P1.2: each byte has two signs, the higher half ahead.
func TestHex(t *testing.T) {
	if got := digest.Hex(""); got != "" {
		t.Errorf("nothing: %q", got)
	}
	if got := digest.Hex("\x00\x01\x0a\x10\x9f\xff"); got != "00010a109fff" {
		t.Errorf("%q", got)
	}
	all := text(1000)
	if got := digest.Hex(all); got != hex.EncodeToString([]byte(all)) {
		t.Error("signs of many bytes are wrong")
	}
}

// P1.2: what is no signs stands for nothing.
func TestUnhexWrong(t *testing.T) {
	for _, s := range []string{"0", "0G", "G0", "000", "0A", "F0", "0g", "g0", "0/", "0:", "0`", ":0", "/0", "`0", " 0", "0 ", "0x", "00 00", "0\n", "-1", "é", "00\xff\xff", "@@", "\x00\x00", "0aff0", "0affzz"} {
		got, ok := digest.Unhex(s)
		if ok || got != "" {
			t.Errorf("%q: %q, %v", s, got, ok)
		}
	}
}

// P1.2: every two bytes are signs just if they stand for a byte.
func TestUnhexPairs(t *testing.T) {
	const signs = "0123456789abcdef"
	for a := 0; a < 256; a++ {
		for b := 0; b < 256; b++ {
			s := string([]byte{byte(a), byte(b)})
			high, low := strings.IndexByte(signs, s[0]), strings.IndexByte(signs, s[1])
			got, ok := digest.Unhex(s)
			if high < 0 || low < 0 {
				if ok || got != "" {
					t.Fatalf("%q: %q, %v", s, got, ok)
				}
			} else if !ok || got != string([]byte{byte(16*high + low)}) {
				t.Fatalf("%q: %q, %v", s, got, ok)
			}
		}
	}
}

// P1.3: signs of bytes stand for them.
func TestThereAndBack(t *testing.T) {
	for n := 0; n < 600; n += 7 {
		s := text(n)
		got, ok := digest.Unhex(digest.Hex(s))
		if !ok || got != s {
			t.Errorf("%d bytes: %v", n, ok)
		}
	}
}
