package header_test

import (
	"archive/tar"
	"bytes"
	"fmt"
	"math"
	"strings"
	"testing"
	"time"

	"holdall/api"
	"holdall/header"
)

// sum is the chapter's.
func sum(s string) int {
	n := 0
	for i := 0; i < len(s); i++ {
		if i >= 148 && i < 156 {
			n += 32
		} else {
			n += int(s[i])
		}
	}
	return n
}

// sealed is a block with its sum set right.
func sealed(s string) string {
	return s[:148] + fmt.Sprintf("%06o\x00 ", sum(s)) + s[156:]
}

// with is a block with other bytes from a place on, and its sum set right.
func with(s string, at int, what string) string {
	return sealed(s[:at] + what + s[at+len(what):])
}

func zeros(n int) string { return strings.Repeat("\x00", n) }

func pad(s string, n int) string { return s + zeros(n-len(s)) }

var sample = api.Header{Name: "usr/bin/sh", Mode: 0755, Uid: 1000, Gid: 100, Size: 12345, Time: 1700000000, Flag: '2', Link: "../dash", Prefix: "root"}

func block(t *testing.T, h api.Header) string {
	t.Helper()
	s, e := header.Encode(h)
	if e != api.OK || len(s) != 512 {
		t.Fatalf("%v: %d bytes, %d", h, len(s), e)
	}
	return s
}

// P9.1: a block's bytes, one by one.
func TestEncode(t *testing.T) {
	want := pad("usr/bin/sh", 100) + "0000755\x00" + "0001750\x00" + "0000144\x00" + "00000030071\x00" + "14524770400\x00" + "        " + "2" + pad("../dash", 100) + "ustar\x0000" + zeros(80) + pad("root", 155) + zeros(12)
	if got := block(t, sample); got != sealed(want) {
		t.Errorf("%q", got)
	}
	a := block(t, api.Header{Name: "a", Mode: 0644, Size: 3, Flag: '0'})
	if a[148:156] != "006101\x00 " {
		t.Errorf("the example's sum: %q", a[148:156])
	}
	nothing := block(t, api.Header{})
	if nothing != sealed(zeros(100)+"0000000\x000000000\x000000000\x00"+"00000000000\x0000000000000\x00"+zeros(8)+zeros(101)+"ustar\x0000"+zeros(247)) {
		t.Errorf("%q", nothing)
	}
}

// P9.1: full fields, and numbers in bytes.
func TestEncodeEdges(t *testing.T) {
	full := api.Header{Name: strings.Repeat("n", 100), Link: strings.Repeat("\xff", 100), Prefix: strings.Repeat("p", 155), Mode: 1 << 21, Uid: 1<<32 - 1, Gid: 1<<56 - 1, Size: math.MaxInt, Time: 1 << 33, Flag: 255}
	s := block(t, full)
	if s[:100] != full.Name || s[157:257] != full.Link || s[345:500] != full.Prefix || s[156] != 255 || s[500:] != zeros(12) {
		t.Error("texts that fill their fields")
	}
	if s[100:108] != "\x80\x00\x00\x00\x00\x20\x00\x00" || s[108:116] != "\x80\x00\x00\x00\xff\xff\xff\xff" || s[116:124] != "\x80"+strings.Repeat("\xff", 7) || s[124:136] != "\x80\x00\x00\x00\x7f"+strings.Repeat("\xff", 7) || s[136:148] != "\x80\x00\x00\x00\x00\x00\x00\x02\x00\x00\x00\x00" {
		t.Errorf("numbers in bytes: %q", s[100:148])
	}
	if s[148:156] != fmt.Sprintf("%06o\x00 ", sum(s)) {
		t.Errorf("the sum: %q", s[148:156])
	}
}

// P9.1: errors, and which comes first.
func TestEncodeErrors(t *testing.T) {
	for _, c := range []struct {
		h api.Header
		e api.Errno
	}{
		{api.Header{Name: strings.Repeat("n", 101)}, api.ErrLong}, {api.Header{Link: strings.Repeat("n", 101)}, api.ErrLong}, {api.Header{Prefix: strings.Repeat("n", 156)}, api.ErrLong},
		{api.Header{Name: "a\x00"}, api.ErrLong}, {api.Header{Name: "\x00"}, api.ErrLong}, {api.Header{Link: "a\x00b"}, api.ErrLong}, {api.Header{Prefix: "\x00b"}, api.ErrLong},
		{api.Header{Name: strings.Repeat("n", 101), Mode: -1}, api.ErrLong}, {api.Header{Prefix: "\x00", Time: -1}, api.ErrLong},
		{api.Header{Mode: -1}, api.ErrArg}, {api.Header{Uid: -1}, api.ErrArg}, {api.Header{Gid: math.MinInt}, api.ErrArg}, {api.Header{Size: -1}, api.ErrArg}, {api.Header{Time: -1}, api.ErrArg},
		{api.Header{Mode: 1 << 56}, api.ErrLong}, {api.Header{Uid: 1 << 56}, api.ErrLong}, {api.Header{Gid: math.MaxInt}, api.ErrLong},
		{api.Header{Mode: 1 << 56, Uid: -1}, api.ErrLong}, {api.Header{Mode: -1, Uid: 1 << 56}, api.ErrArg}, {api.Header{Uid: 1 << 56, Gid: -1}, api.ErrLong}, {api.Header{Uid: -1, Gid: 1 << 56}, api.ErrArg}, {api.Header{Gid: 1 << 56, Size: -1}, api.ErrLong}, {api.Header{Gid: 1 << 56, Time: -1}, api.ErrLong},
	} {
		if s, e := header.Encode(c.h); s != "" || e != c.e {
			t.Errorf("%v: %d bytes, %d", c.h, len(s), e)
		}
	}
}

// P9.1
func TestSum(t *testing.T) {
	s := block(t, sample)
	if header.Sum(s) != sum(s) || header.Sum(zeros(512)) != 256 || header.Sum(strings.Repeat("\xff", 512)) != 504*255+256 {
		t.Error("a block's sum")
	}
	if header.Sum(s[:148]+"12345678"+s[156:]) != sum(s) || header.Sum(s[:147]+"\xff12345678\xff"+s[157:]) != sum(s)-int(s[147])-int(s[156])+510 {
		t.Error("the sum's own bytes count, or those beside them don't")
	}
	for _, n := range []int{0, 1, 511, 513, 1024} {
		if got := header.Sum(strings.Repeat("a", n)); got != 0 {
			t.Errorf("%d bytes: %d", n, got)
		}
	}
}

// P9.2
func TestBlank(t *testing.T) {
	if !header.Blank(zeros(512)) {
		t.Error("a blank block isn't")
	}
	for _, n := range []int{0, 1, 511, 513, 1024} {
		if header.Blank(zeros(n)) {
			t.Errorf("%d bytes", n)
		}
	}
	for i := 0; i < 512; i++ {
		if header.Blank(zeros(i) + "\x01" + zeros(511-i)) {
			t.Errorf("byte %d is 1", i)
		}
	}
	if header.Blank(strings.Repeat("0", 512)) || header.Blank(strings.Repeat(" ", 512)) {
		t.Error("blanks, or noughts")
	}
}

// P9.2: fields as others may write them.
func TestDecodeFields(t *testing.T) {
	s := block(t, sample)
	for _, c := range []struct {
		at   int
		what string
		set  func(h *api.Header)
	}{
		{0, "a\x00b", func(h *api.Header) { h.Name = "a" }},
		{0, "\x00b", func(h *api.Header) { h.Name = "" }},
		{0, strings.Repeat("x", 100), func(h *api.Header) { h.Name = strings.Repeat("x", 100) }},
		{157, strings.Repeat("y", 100), func(h *api.Header) { h.Link = strings.Repeat("y", 100) }},
		{345, strings.Repeat("z", 155) + "twelve bytes", func(h *api.Header) { h.Prefix = strings.Repeat("z", 155) }},
		{345, "z\x00z", func(h *api.Header) { h.Prefix = "z" }},
		{100, "   644 \x00", func(h *api.Header) { h.Mode = 0644 }},
		{100, "7      \x00", func(h *api.Header) { h.Mode = 7 }},
		{108, "00000010", func(h *api.Header) { h.Uid = 8 }},
		{116, "\x80\x00\x00\x00\x00\x00\x01\x00", func(h *api.Header) { h.Gid = 256 }},
		{124, "\x80" + zeros(10) + "\x05", func(h *api.Header) { h.Size = 5 }},
		{136, "777777777777", func(h *api.Header) { h.Time = 1<<36 - 1 }},
		{156, "\x00", func(h *api.Header) { h.Flag = 0 }},
		{156, "x", func(h *api.Header) { h.Flag = 'x' }},
		// What stands elsewhere doesn't count.
		{265, strings.Repeat("u", 80), func(h *api.Header) {}},
		{500, "twelve bytes", func(h *api.Header) {}},
	} {
		want := sample
		c.set(&want)
		if got, e := header.Decode(with(s, c.at, c.what)); got != want || e != api.OK {
			t.Errorf("%q at %d: %v, %d", c.what, c.at, got, e)
		}
	}
}

// P9.2: sums as others may write them.
func TestDecodeSum(t *testing.T) {
	s := block(t, sample)
	n := sum(s)
	for _, field := range []string{fmt.Sprintf("%06o\x00 ", n), fmt.Sprintf("%07o ", n), fmt.Sprintf("%08o", n), fmt.Sprintf("%7o\x00", n), "\x80" + zeros(5) + string([]byte{byte(n >> 8), byte(n)})} {
		if got, e := header.Decode(s[:148] + field + s[156:]); got != sample || e != api.OK {
			t.Errorf("sum %q: %v, %d", field, got, e)
		}
	}
	for field, want := range map[string]api.Errno{
		zeros(8): api.ErrForm, "        ": api.ErrForm, fmt.Sprintf("%06o\x00 ", n+1): api.ErrForm, fmt.Sprintf("%06o\x00 ", n-1): api.ErrForm, fmt.Sprintf("%06ox ", n): api.ErrForm, "notoctal": api.ErrForm, "\x80" + strings.Repeat("\xff", 7): api.ErrForm,
	} {
		if got, e := header.Decode(s[:148] + field + s[156:]); got != (api.Header{}) || e != want {
			t.Errorf("sum %q: %v, %d", field, got, e)
		}
	}
}

// P9.2: errors, and which comes first.
func TestDecodeErrors(t *testing.T) {
	s := block(t, sample)
	long := "\x80\xff" + zeros(10)
	for name, c := range map[string]struct {
		s string
		e api.Errno
	}{
		"nothing":    {"", api.ErrForm},
		"511 bytes":  {s[:511], api.ErrForm},
		"513 bytes":  {s + "\x00", api.ErrForm},
		"no ustar":   {with(s, 257, "USTAR"), api.ErrForm},
		"gnu":        {with(s, 257, "ustar  \x00"), api.ErrForm},
		"version":    {with(s, 263, "01"), api.ErrForm},
		"no byte 0":  {with(s, 262, "0"), api.ErrForm},
		"blank":      {zeros(512), api.ErrForm},
		"mode":       {with(s, 100, "0000008\x00"), api.ErrForm},
		"mode none":  {with(s, 100, zeros(8)), api.ErrForm},
		"uid":        {with(s, 108, "x000000\x00"), api.ErrForm},
		"gid":        {with(s, 116, "       \x00"), api.ErrForm},
		"size":       {with(s, 124, "00000 00000\x00"), api.ErrForm},
		"size long":  {with(s, 124, long), api.ErrLong},
		"time":       {with(s, 136, "0000000000-\x00"), api.ErrForm},
		"time long":  {with(s, 136, long), api.ErrLong},
		"mode first": {with(with(s, 136, long), 100, "x"), api.ErrForm},
		"size first": {with(with(s, 124, long), 136, "x"), api.ErrLong},
		"gid first":  {with(with(s, 124, long), 116, "x"), api.ErrForm},
		"sum first":  {with(s, 124, long)[:148] + "000000\x00 " + s[156:], api.ErrForm},
	} {
		if got, e := header.Decode(c.s); got != (api.Header{}) || e != c.e {
			t.Errorf("%s: %v, %d", name, got, e)
		}
	}
}

// P9.3: what was encoded is decoded.
func TestThereAndBack(t *testing.T) {
	for _, h := range []api.Header{sample, {}, {Name: strings.Repeat("n", 100), Link: strings.Repeat("l", 100), Prefix: strings.Repeat("p", 155), Mode: 1<<56 - 1, Uid: 1<<56 - 1, Gid: 1 << 21, Size: math.MaxInt, Time: math.MaxInt, Flag: 255}, {Name: "\xff/é", Flag: 'g', Size: 1 << 33}} {
		if got, e := header.Decode(block(t, h)); got != h || e != api.OK {
			t.Errorf("%v: %v, %d", h, got, e)
		}
	}
}

// P9.3: a block with one byte that isn't its own is refused, unless it stands for the same sum.
func TestOneByte(t *testing.T) {
	s := block(t, sample)
	for i := 0; i < 512; i++ {
		for _, by := range []byte{1, 128, 255, ' ', '0'} {
			other := s[:i] + string([]byte{s[i] + by}) + s[i+1:]
			got, e := header.Decode(other)
			if i >= 148 && i < 156 {
				if e == api.OK && got != sample {
					t.Errorf("byte %d: %v", i, got)
				}
			} else if e == api.OK || got != (api.Header{}) {
				t.Errorf("byte %d and %d: %v, %d", i, by, got, e)
			}
		}
	}
}

// P9.1, P9.2: others read what is written, and the other way round.
func TestOthers(t *testing.T) {
	h, err := tar.NewReader(strings.NewReader(block(t, api.Header{Name: "a/b", Mode: 0644, Uid: 5, Gid: 6, Time: 77, Flag: '2', Link: "c"}) + zeros(1024))).Next()
	if err != nil || h.Name != "a/b" || h.Mode != 0644 || h.Uid != 5 || h.Gid != 6 || h.ModTime.Unix() != 77 || h.Linkname != "c" || h.Typeflag != tar.TypeSymlink {
		t.Errorf("%v, %v", h, err)
	}
	var b bytes.Buffer
	w := tar.NewWriter(&b)
	if err := w.WriteHeader(&tar.Header{Typeflag: tar.TypeReg, Name: "x", Mode: 0600, Size: 9, ModTime: time.Unix(1234, 0), Format: tar.FormatUSTAR}); err != nil {
		t.Fatal(err)
	}
	got, e := header.Decode(b.String()[:512])
	if want := (api.Header{Name: "x", Mode: 0600, Size: 9, Time: 1234, Flag: '0'}); got != want || e != api.OK {
		t.Errorf("%v, %d", got, e)
	}
}
