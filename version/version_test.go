package version_test

import (
	"cmp"
	"math"
	"math/rand"
	"strings"
	"testing"

	"holdall/api"
	"holdall/version"
)

// P12.1
func TestCheck(t *testing.T) {
	for _, s := range []string{"1", "a", "Z", "0", "1.0", "1.0~rc1", "1-2+3~4_5.6", "a~", "0.", "z9", strings.Repeat("1", 24), "1" + strings.Repeat("~", 23)} {
		if !version.Check(s) {
			t.Errorf("%q is no version", s)
		}
	}
	for _, s := range []string{"", ".1", "-1", "+1", "~1", "_1", "1 0", " 1", "1 ", "1:0", "1/0", "1\x00", "1\n", "é", "1é", "1\xff", "\xff", "1٣", "1=2", "1@", "1[", "1`", "1{", "1,", "1^", strings.Repeat("1", 25), strings.Repeat("1", 5000)} {
		if version.Check(s) {
			t.Errorf("%q is a version", s)
		}
	}
	const signs = "abcdefghijklmnopqrstuvwxyzABCDEFGHIJKLMNOPQRSTUVWXYZ0123456789"
	for b := 0; b < 256; b++ {
		s := string([]byte{byte(b)})
		first := strings.Contains(signs, s)
		if version.Check(s) != first || version.Check("1"+s) != (first || strings.Contains(".-+~_", s)) {
			t.Errorf("byte %d", b)
		}
	}
}

// groups are versions, rising; those of one group are as old.
var groups = [][]string{
	{"0~~", "00~~", "0~~0"}, {"0~", "0~0", "00~00"}, {"0~a"}, {"0", "00", "000000"}, {"0a"},
	{"1~~"}, {"1~~a"}, {"1~"}, {"1~1"}, {"1~A"}, {"1~a"}, {"1~rc1", "1~rc01"}, {"1~rc2"}, {"1~rc10"}, {"1~+"},
	{"1", "01", "0001"}, {"1A"}, {"1Z"}, {"1a~"}, {"1a", "01a", "1a0"}, {"1a1", "1a01"}, {"1aa"}, {"1ab"}, {"1b"}, {"1z"}, {"1z+"},
	{"1+~"}, {"1+", "1+0"}, {"1+1"}, {"1+a"}, {"1-"}, {"1-1", "1-01"}, {"1-10"}, {"1.~"}, {"1.", "1.0", "1.00", "01.000"}, {"1.0a"}, {"1.0.", "1.0.0"}, {"1.0.1"}, {"1.1"}, {"1.2"}, {"1.9"}, {"1.10", "1.010"}, {"1._"}, {"1_", "1_0"}, {"1__"},
	{"2"}, {"9"}, {"10"}, {"11"}, {"99999999999999999999998"}, {"99999999999999999999999"}, {"999999999999999999999998"}, {"999999999999999999999999"},
	{"A"}, {"A1"}, {"B"}, {"a"}, {"a1"}, {"b"},
}

// P12.1, P12.3: all of the groups against one another.
func TestCompare(t *testing.T) {
	for i, g := range groups {
		for j, h := range groups {
			for _, a := range g {
				for _, b := range h {
					if !version.Check(a) {
						t.Fatalf("%q is no version", a)
					}
					if got := version.Compare(a, b); got != cmp.Compare(i, j) {
						t.Errorf("%q and %q: %d, want %d", a, b, got, cmp.Compare(i, j))
					}
				}
			}
		}
	}
}

// P12.1: the examples, and what isn't a version.
func TestCompareExamples(t *testing.T) {
	for _, c := range []struct {
		a, b string
		want int
	}{
		{"1.10", "1.9", 1}, {"1.0~rc1", "1.0", -1}, {"1.0a", "1.0", 1}, {"1.00", "1.0", 0}, {"1.0", "1.0", 0},
		// Byte by byte, if one of both may not be.
		{"1.10", "1.9 ", -1}, {"1.10 ", "1.9", -1}, {"1.00", "1.0 ", 1}, {"", "", 0}, {"", "1", -1}, {"1", "", 1}, {"~", "", 1}, {"~1", "0", 1}, {"0", "~1", -1}, {"10", ".9", 1}, {"1.0~rc1", "1.0é", -1}, {"1.0é", "1.0~rc1", 1}, {"1\xff", "1é", 1}, {"\xff", "\xff", 0},
		{strings.Repeat("0", 25), "0", 1}, {"00", strings.Repeat("0", 25), -1}, {strings.Repeat("9", 25), "1" + strings.Repeat("0", 23), 1}, {"1" + strings.Repeat("0", 24), "9", -1},
	} {
		if got := version.Compare(c.a, c.b); got != c.want {
			t.Errorf("%q and %q: %d, want %d", c.a, c.b, got, c.want)
		}
	}
}

// some is a version of few signs, so that many are near one another.
func some(r *rand.Rand) string {
	const signs = "019a~.+-_Z"
	for {
		b := make([]byte, 1+r.Intn(6))
		for i := range b {
			b[i] = signs[r.Intn(len(signs))]
		}
		if version.Check(string(b)) {
			return string(b)
		}
	}
}

// P12.3: versions stand in one order.
func TestOrder(t *testing.T) {
	r := rand.New(rand.NewSource(12))
	for i := 0; i < 20000; i++ {
		a, b, c := some(r), some(r), some(r)
		if version.Compare(a, b) != -version.Compare(b, a) || version.Compare(a, a) != 0 {
			t.Fatalf("%q and %q", a, b)
		}
		if version.Compare(a, b) <= 0 && version.Compare(b, c) <= 0 && version.Compare(a, c) > 0 {
			t.Fatalf("%q, %q, %q", a, b, c)
		}
		if version.Compare(a, b) == 0 && version.Compare(a, c) != version.Compare(b, c) {
			t.Fatalf("%q as old as %q, but not for %q", a, b, c)
		}
	}
}

// P12.2
func TestHolds(t *testing.T) {
	l := []string{"1", "1.0", "1.00", "1.9", "1.10", "2~", "2", "", "a b", "~"}
	for _, a := range l {
		for _, b := range l {
			c := version.Compare(a, b)
			for op, want := range map[int]bool{api.OpAny: true, api.OpEq: c == 0, api.OpLt: c < 0, api.OpLe: c <= 0, api.OpGt: c > 0, api.OpGe: c >= 0, 6: false, -1: false, math.MaxInt: false, math.MinInt: false} {
				if got := version.Holds(api.Rule{Name: "n", Op: op, Version: b}, a); got != want {
					t.Errorf("%q by %d %q: %v", a, op, b, got)
				}
			}
		}
	}
	atLeast := api.Rule{Name: "b", Op: api.OpGe, Version: "2"}
	if version.Holds(atLeast, "1.9") || !version.Holds(atLeast, "2.0") || !version.Holds(atLeast, "10") {
		t.Error("at least 2")
	}
}
