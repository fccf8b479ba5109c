package long_test

import (
	"crypto/sha512"
	"strings"
	"testing"

	"holdall/long"
)

// text is n bytes of all kinds.
func text(n int) string {
	b := make([]byte, n)
	for i := range b {
		b[i] = byte(i*11 + i/249)
	}
	return string(b)
}

func checkSum(t *testing.T, s string) {
	t.Helper()
	want := sha512.Sum512([]byte(s))
	if got := long.Sum(s); got != string(want[:]) {
		t.Errorf("sum of %d bytes: %x, want %x", len(s), got, want)
	}
}

// P2.1: the chapter's examples.
func TestSumExamples(t *testing.T) {
	abc := long.Sum("abc")
	if len(abc) != 64 || abc[:4] != "\xdd\xaf\x35\xa1" || abc[60:] != "\xa5\x4c\xa4\x9f" {
		t.Errorf("abc: %x", abc)
	}
	if nothing := long.Sum(""); len(nothing) != 64 || nothing[:4] != "\xcf\x83\xe1\x35" {
		t.Errorf("nothing: %x", nothing)
	}
	checkSum(t, "abc")
	checkSum(t, "")
}

// P2.1: every length about the blocks' ends, those where the length needs a block more among them.
func TestSumLengths(t *testing.T) {
	for n := 0; n <= 600; n++ {
		checkSum(t, text(n))
	}
	for _, n := range []int{1000, 8191, 8192, 65536, 1<<20 - 1, 1 << 20} {
		checkSum(t, text(n))
	}
}

// P2.1: bytes of one value, and each byte alone.
func TestSumBytes(t *testing.T) {
	for b := 0; b < 256; b++ {
		checkSum(t, string([]byte{byte(b)}))
		checkSum(t, strings.Repeat(string([]byte{byte(b)}), 128+b%5))
	}
}

// P2.1: a sum is of its message alone, not of those ahead.
func TestSumAgain(t *testing.T) {
	first := long.Sum("one")
	long.Sum(text(500))
	if long.Sum("one") != first {
		t.Error("a sum changed")
	}
}
