// Package digest is layer 1: SHA-256, and bytes as signs.
package digest

import "math/bits"

// The first 32 bits of the fractions of the cube roots of the first 64 primes.
var k = [64]uint32{
	0x428a2f98, 0x71374491, 0xb5c0fbcf, 0xe9b5dba5, 0x3956c25b, 0x59f111f1, 0x923f82a4, 0xab1c5ed5,
	0xd807aa98, 0x12835b01, 0x243185be, 0x550c7dc3, 0x72be5d74, 0x80deb1fe, 0x9bdc06a7, 0xc19bf174,
	0xe49b69c1, 0xefbe4786, 0x0fc19dc6, 0x240ca1cc, 0x2de92c6f, 0x4a7484aa, 0x5cb0a9dc, 0x76f988da,
	0x983e5152, 0xa831c66d, 0xb00327c8, 0xbf597fc7, 0xc6e00bf3, 0xd5a79147, 0x06ca6351, 0x14292967,
	0x27b70a85, 0x2e1b2138, 0x4d2c6dfc, 0x53380d13, 0x650a7354, 0x766a0abb, 0x81c2c92e, 0x92722c85,
	0xa2bfe8a1, 0xa81a664b, 0xc24b8b70, 0xc76c51a3, 0xd192e819, 0xd6990624, 0xf40e3585, 0x106aa070,
	0x19a4c116, 0x1e376c08, 0x2748774c, 0x34b0bcb5, 0x391c0cb3, 0x4ed8aa4a, 0x5b9cca4f, 0x682e6ff3,
	0x748f82ee, 0x78a5636f, 0x84c87814, 0x8cc70208, 0x90befffa, 0xa4506ceb, 0xbef9a3f7, 0xc67178f2,
}

// Bytes of a block, and where a message's length stands in its last one.
const (
	block    = 64
	lengthAt = 56
)

// Sum is the sum of s: 32 bytes.
func Sum(s string) string {
	h := [8]uint32{0x6a09e667, 0xbb67ae85, 0x3c6ef372, 0xa54ff53a, 0x510e527f, 0x9b05688c, 0x1f83d9ab, 0x5be0cd19}
	at := 0
	for len(s)-at >= block {
		h = mix(h, s[at:at+block])
		at += block
	}
	// Only what is left is laid beside its filling, so that a long message isn't copied.
	last := s[at:] + filling(len(s))
	for i := 0; i < len(last); i += block {
		h = mix(h, last[i:i+block])
	}
	return spell(h)
}

// filling is what comes behind a message of n bytes.
func filling(n int) string {
	b := []byte{128}
	for (n+len(b))%block != lengthAt {
		b = append(b, 0)
	}
	length := uint64(n) * 8
	for i := 0; i < 8; i++ {
		b = append(b, byte(length>>(56-8*i)))
	}
	return string(b)
}

func mix(h [8]uint32, s string) [8]uint32 {
	w := widen(s)
	v := h
	for i := 0; i < len(k); i++ {
		v = turn(v, k[i]+w[i])
	}
	for i := 0; i < len(h); i++ {
		h[i] += v[i]
	}
	return h
}

// widen makes 64 words of a block's 16.
func widen(s string) [64]uint32 {
	var w [64]uint32
	for i := 0; i < 16; i++ {
		w[i] = uint32(s[4*i])<<24 | uint32(s[4*i+1])<<16 | uint32(s[4*i+2])<<8 | uint32(s[4*i+3])
	}
	for i := 16; i < 64; i++ {
		x, y := w[i-15], w[i-2]
		low := bits.RotateLeft32(x, -7) ^ bits.RotateLeft32(x, -18) ^ x>>3
		high := bits.RotateLeft32(y, -17) ^ bits.RotateLeft32(y, -19) ^ y>>10
		w[i] = w[i-16] + low + w[i-7] + high
	}
	return w
}

// turn is one of the 64 rounds: word is the round's k and w together.
func turn(v [8]uint32, word uint32) [8]uint32 {
	a, b, c, e, f, g := v[0], v[1], v[2], v[4], v[5], v[6]
	x := v[7] + (bits.RotateLeft32(e, -6) ^ bits.RotateLeft32(e, -11) ^ bits.RotateLeft32(e, -25)) + (e&f ^ ^e&g) + word
	y := (bits.RotateLeft32(a, -2) ^ bits.RotateLeft32(a, -13) ^ bits.RotateLeft32(a, -22)) + (a&b ^ a&c ^ b&c)
	return [8]uint32{x + y, a, b, c, v[3] + x, e, f, g}
}

// spell is the words' bytes, the highest first.
func spell(h [8]uint32) string {
	b := make([]byte, 0, 32)
	for i := 0; i < len(h); i++ {
		b = append(b, byte(h[i]>>24), byte(h[i]>>16), byte(h[i]>>8), byte(h[i]))
	}
	return string(b)
}

const signs = "0123456789abcdef"

// Hex is s in signs.
func Hex(s string) string {
	b := make([]byte, 0, 2*len(s))
	for i := 0; i < len(s); i++ {
		b = append(b, signs[s[i]>>4], signs[s[i]&15])
	}
	return string(b)
}

// Unhex is the bytes whose signs s is.
func Unhex(s string) (string, bool) {
	if len(s)%2 != 0 {
		return "", false
	}
	b := make([]byte, 0, len(s)/2)
	for i := 0; i < len(s); i += 2 {
		high, low := half(s[i]), half(s[i+1])
		if high < 0 || low < 0 {
			return "", false
		}
		b = append(b, byte(high<<4|low))
	}
	return string(b), true
}

// half is the number that a sign stands for, or -1.
func half(c byte) int {
	switch {
	case c >= '0' && c <= '9':
		return int(c - '0')
	case c >= 'a' && c <= 'f':
		return int(c-'a') + 10
	}
	return -1
}
