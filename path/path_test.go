package path_test

import (
	"slices"
	"strings"
	"testing"
	"unicode/utf8"

	"holdall/api"
	"holdall/path"
)

// wrong are texts that stand in no path, nor in a target.
var wrong = []string{" ", "\x00", "\x1f", "\x7f", "\t", "\n", "a b", "a\x00", "\u0080", "\u0085", "\u009f", "a\u0080b", "a\xff", "\xff", "\xc2", "\xe2\x82", "\xc0\x80", "\xc1\xbf", "\xed\xa0\x80", "\xed\xbf\xbf", "\xf4\x90\x80\x80", "\xf0\x80\x80\xaf", "\x80", "\xbf", "a\xc3", "\xf8\x88\x80\x80\x80"}

// right are texts that may be parts.
var right = []string{"a", "Z", "0", "!", "~", "...", "..a", ".a", "a.", "a..", "-", "\\", "\"", "\u00a0", "é", "ä", "€", "日本", "𝄞", "\ufffd", "a\ufffdb", "\U0010ffff", "\ue000", "\ud7ff", "\u2028", "\u200b", ".holdall", "base.new", "{}", "*", "?", ":", "@", "`"}

// P7.1: parts that may be, and that may not.
func TestPart(t *testing.T) {
	for _, s := range right {
		if !path.Part(s) {
			t.Errorf("%q is no part", s)
		}
	}
	for _, s := range append([]string{"", ".", "..", "/", "a/", "/a", "a/b", "//", "é/é"}, wrong...) {
		if path.Part(s) {
			t.Errorf("%q is a part", s)
		}
	}
	if !path.Part(strings.Repeat("a", 64)) || path.Part(strings.Repeat("a", 65)) || !path.Part(strings.Repeat("é", 32)) || path.Part(strings.Repeat("é", 33)) || path.Part(strings.Repeat("é", 32)+"a") {
		t.Error("a part's length is in bytes, 64 of them")
	}
}

// P7.1: each rune by itself.
func TestRunes(t *testing.T) {
	for r := rune(0); r <= 0x11000; r++ {
		if !utf8.ValidRune(r) {
			continue
		}
		may := r > 32 && r != 127 && !(r >= 128 && r <= 159)
		s := "a" + string(r)
		if path.Part(s) != (may && r != '/') || path.Target(s) != may {
			t.Errorf("rune %x: part %v, target %v", r, path.Part(s), path.Target(s))
		}
	}
	for b := 128; b < 256; b++ {
		if s := "a" + string([]byte{byte(b)}); path.Part(s) || path.Target(s) {
			t.Errorf("byte %d alone was taken", b)
		}
	}
}

// P7.1: targets may have any parts, and / anywhere.
func TestTarget(t *testing.T) {
	for _, s := range append([]string{"/", "//", ".", "..", "../../a", "/usr", "usr/", "a//b"}, right...) {
		if !path.Target(s) {
			t.Errorf("%q is no target", s)
		}
	}
	for _, s := range append([]string{""}, wrong...) {
		if path.Target(s) || path.Target("a/"+s+"/b") && s != "" {
			t.Errorf("%q is a target", s)
		}
	}
	if !path.Target(strings.Repeat("a/", 100)) || path.Target(strings.Repeat("a/", 100)+"a") || !path.Target(strings.Repeat("a", 200)) {
		t.Error("a target's length")
	}
}

// P7.1: the installer's own part, as the first one alone.
func TestReserved(t *testing.T) {
	if path.Own() != ".holdall" {
		t.Errorf("%q", path.Own())
	}
	for _, s := range []string{".holdall", ".holdall/base", ".holdall/", ".holdall//x", ".holdall/a/b", ".holdall/ \xff"} {
		if !path.Reserved(s) {
			t.Errorf("%q isn't reserved", s)
		}
	}
	for _, s := range []string{"", "/", "/.holdall", "a/.holdall", ".holdallx", ".holdal", "holdall", ".holdall.new", ".Holdall", " .holdall", ".holdall /x", "a"} {
		if path.Reserved(s) {
			t.Errorf("%q is reserved", s)
		}
	}
}

// P7.2: parts, and the errors in their order.
func TestParts(t *testing.T) {
	long := strings.Repeat("a/", 15)
	for _, c := range []struct {
		s string
		n int
		e api.Errno
	}{
		{"a", 1, api.OK}, {"usr/bin/sh", 3, api.OK}, {".holdall/base", 2, api.OK}, {"é/€", 2, api.OK}, {"a/...", 2, api.OK},
		{"usr/../sh", 0, api.ErrPath}, {"/usr", 0, api.ErrPath}, {"usr/", 0, api.ErrPath}, {"", 0, api.ErrPath}, {"/", 0, api.ErrPath},
		{"a//b", 0, api.ErrPath}, {"./a", 0, api.ErrPath}, {"a/.", 0, api.ErrPath}, {"..", 0, api.ErrPath}, {"a/\xff", 0, api.ErrPath}, {"a b", 0, api.ErrPath},
		{long + "a", 16, api.OK}, {long + "a/b", 0, api.ErrLong}, {long + "a/", 0, api.ErrPath}, {long + "a/b/..", 0, api.ErrPath},
		{strings.Repeat("a", 64), 1, api.OK}, {strings.Repeat("a", 65), 0, api.ErrPath}, {strings.Repeat("a/", 40) + strings.Repeat("b", 65), 0, api.ErrPath},
		{strings.Repeat(strings.Repeat("a", 49)+"/", 3) + strings.Repeat("a", 50), 4, api.OK},
		{strings.Repeat(strings.Repeat("a", 49)+"/", 3) + strings.Repeat("a", 51), 0, api.ErrLong},
		{strings.Repeat("/", 200), 0, api.ErrPath}, {strings.Repeat("/", 201), 0, api.ErrLong}, {strings.Repeat("a", 201), 0, api.ErrLong}, {strings.Repeat("\xff", 5000), 0, api.ErrLong},
	} {
		l, e := path.Parts(c.s)
		if e != c.e || len(l) != c.n {
			t.Errorf("%q: %q, %d", c.s, l, e)
		}
		if e == api.OK && strings.Join(l, "/") != c.s {
			t.Errorf("%q has the parts %q", c.s, l)
		}
	}
	if l, _ := path.Parts("usr/bin/sh"); !slices.Equal(l, []string{"usr", "bin", "sh"}) {
		t.Errorf("%q", l)
	}
}

// P7.2: Join and Parent, of any texts.
func TestJoinParent(t *testing.T) {
	for _, c := range []struct {
		l []string
		s string
	}{{nil, ""}, {[]string{}, ""}, {[]string{""}, ""}, {[]string{"a"}, "a"}, {[]string{"a", "b"}, "a/b"}, {[]string{"", "", ""}, "//"}, {[]string{"/", "a b", "\xff"}, "//a b/\xff"}} {
		if got := path.Join(c.l); got != c.s {
			t.Errorf("%q: %q", c.l, got)
		}
	}
	for _, c := range [][2]string{{"", ""}, {"a", ""}, {"a/b", "a"}, {"usr/bin", "usr"}, {"a/b/c", "a/b"}, {"/", ""}, {"/a", ""}, {"a/", "a"}, {"a//b", "a/"}, {"//", "/"}, {"\xff/\xfe", "\xff"}} {
		if got := path.Parent(c[0]); got != c[1] {
			t.Errorf("%q: %q", c[0], got)
		}
	}
}

// P7.3: there and back; and no path has a part that leads up, or to the root.
func TestThereAndBack(t *testing.T) {
	for _, a := range right {
		for _, b := range right {
			s := path.Join([]string{a, b})
			l, e := path.Parts(s)
			if e != api.OK || !slices.Equal(l, []string{a, b}) || path.Join(l) != s || path.Parent(s) != a {
				t.Errorf("%q: %q, %d", s, l, e)
			}
		}
	}
	for _, up := range []string{"..", ".", "", "/"} {
		for _, s := range []string{up, "a/" + up, up + "/a", "a/" + up + "/b"} {
			if l, e := path.Parts(s); e == api.OK || len(l) != 0 {
				t.Errorf("%q: %q", s, l)
			}
		}
	}
}

// Nothing is kept: what is answered is the caller's own.
func TestNewMemory(t *testing.T) {
	l, _ := path.Parts("a/b")
	l[0] = "x"
	again, _ := path.Parts("a/b")
	if again[0] != "a" {
		t.Error("an answer was kept")
	}
	in := []string{"a", "b"}
	path.Join(in)
	if in[0] != "a" || in[1] != "b" {
		t.Error("what was handed in was changed")
	}
}
