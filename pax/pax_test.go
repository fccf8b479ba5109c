package pax_test

import (
	"archive/tar"
	"bytes"
	"fmt"
	"slices"
	"strings"
	"testing"

	"holdall/api"
	"holdall/pax"
)

// record is a pair's record: the least length that is right is looked for from 1 on.
func record(p api.Pair) string {
	rest := " " + p.Key + "=" + p.Value + "\n"
	for n := 1; ; n++ {
		if len(fmt.Sprint(n))+len(rest) == n {
			return fmt.Sprint(n) + rest
		}
	}
}

// P10.1
func TestKey(t *testing.T) {
	for _, s := range []string{"a", "path", "SCHILY.xattr.user", "é", "\xff", "\t", "\x01", "0", "\r", ".", "a/b"} {
		if !pax.Key(s) {
			t.Errorf("%q is no key", s)
		}
	}
	for _, s := range []string{"", "=", "a=", "=a", "a=b", "\x00", "a\x00", "\n", "a\nb", " ", "a b", " a", "a "} {
		if pax.Key(s) {
			t.Errorf("%q is a key", s)
		}
	}
	for b := 0; b < 256; b++ {
		want := b != 0 && b != '\n' && b != ' ' && b != '='
		if pax.Key(string([]byte{byte(b)})) != want {
			t.Errorf("byte %d", b)
		}
	}
	if !pax.Key(strings.Repeat("k", 2<<20)) {
		t.Error("a long key")
	}
}

func pairs() []api.Pair {
	return []api.Pair{{Key: "path", Value: "a"}, {Key: "k", Value: "12345"}, {Key: "k", Value: ""}, {Key: "é", Value: "a=b\nc\x00 d"}, {Key: "path", Value: "\n"}, {Key: "x", Value: "=\n9 path=a\n"}}
}

// P10.1: records one behind the other.
func TestEncode(t *testing.T) {
	want := ""
	for i, p := range pairs() {
		want += record(p)
		if got, e := pax.Encode([]api.Pair{p}); got != record(p) || e != api.OK {
			t.Errorf("%v: %q, %d", p, got, e)
		}
		if got, e := pax.Encode(pairs()[:i+1]); got != want || e != api.OK {
			t.Errorf("%d records: %q, %d", i+1, got, e)
		}
	}
	if got, e := pax.Encode(nil); got != "" || e != api.OK {
		t.Errorf("none: %q, %d", got, e)
	}
	if got, _ := pax.Encode([]api.Pair{{Key: "path", Value: "a"}}); got != "9 path=a\n" {
		t.Errorf("%q", got)
	}
	if got, _ := pax.Encode([]api.Pair{{Key: "k", Value: "12345"}}); got != "11 k=12345\n" {
		t.Errorf("%q", got)
	}
}

// P10.1, P10.3: every length about 10, 100, 1000, 10000, where two lengths may be right.
func TestLengths(t *testing.T) {
	for _, from := range []int{0, 80, 985, 9980, 99970} {
		for n := from; n < from+30; n++ {
			p := api.Pair{Key: "k", Value: strings.Repeat("v", n)}
			s, e := pax.Encode([]api.Pair{p})
			if s != record(p) || e != api.OK {
				t.Errorf("%d bytes: %.10q, %d", n, s, e)
			}
			if l, e := pax.Decode(record(p)); e != api.OK || !slices.Equal(l, []api.Pair{p}) {
				t.Errorf("%d bytes aren't read: %d", n, e)
			}
		}
	}
	// 99 and 100 both count this record rightly: the least one is its length.
	p := api.Pair{Key: "k", Value: strings.Repeat("v", 93)}
	if s := record(p); s[:3] != "99 " {
		t.Fatalf("%.5q", s)
	}
	if l, e := pax.Decode("100 k=" + p.Value + "\n"); e != api.ErrForm || len(l) != 0 {
		t.Errorf("a length that isn't the least: %d", e)
	}
}

// P10.1: errors, and which comes first.
func TestEncodeErrors(t *testing.T) {
	big := strings.Repeat("v", 1<<20)
	good := api.Pair{Key: "k", Value: "v"}
	bad := api.Pair{Key: "a b", Value: "v"}
	room := 1<<20 - len("1048576 k=\n")
	for name, c := range map[string]struct {
		l []api.Pair
		e api.Errno
	}{
		"bad key":           {[]api.Pair{bad}, api.ErrArg},
		"no key":            {[]api.Pair{good, {Value: "v"}}, api.ErrArg},
		"long value":        {[]api.Pair{{Key: "k", Value: big + "v"}}, api.ErrLong},
		"long key":          {[]api.Pair{{Key: big + "k"}}, api.ErrLong},
		"bad and long":      {[]api.Pair{{Key: "=", Value: big + "v"}}, api.ErrArg},
		"bad, long key":     {[]api.Pair{{Key: big + "="}}, api.ErrArg},
		"whole":             {[]api.Pair{{Key: "k", Value: big}}, api.ErrLong},
		"whole by one":      {[]api.Pair{{Key: "k", Value: big[:room+1]}}, api.ErrLong},
		"whole of two":      {[]api.Pair{{Key: "k", Value: big[:room]}, good}, api.ErrLong},
		"long, then bad":    {[]api.Pair{{Key: "k", Value: big + "v"}, bad}, api.ErrLong},
		"much, good, bad":   {[]api.Pair{{Key: "k", Value: big}, good, bad}, api.ErrLong},
		"bad ahead of long": {[]api.Pair{bad, {Key: "k", Value: big + "v"}}, api.ErrArg},
	} {
		if got, e := pax.Encode(c.l); got != "" || e != c.e {
			t.Errorf("%s: %d bytes, %d", name, len(got), e)
		}
	}
	got, e := pax.Encode([]api.Pair{{Key: "k", Value: big[:room]}})
	if len(got) != 1<<20 || e != api.OK {
		t.Errorf("all the room: %d bytes, %d", len(got), e)
	}
}

// P10.2
func TestDecode(t *testing.T) {
	all := ""
	for i, p := range pairs() {
		all += record(p)
		if l, e := pax.Decode(all); e != api.OK || !slices.Equal(l, pairs()[:i+1]) {
			t.Errorf("%q: %v, %d", all, l, e)
		}
	}
	if l, e := pax.Decode(""); len(l) != 0 || e != api.OK {
		t.Errorf("nothing: %v, %d", l, e)
	}
	for _, s := range []string{"9 path=a", "9 path=ab", "8 path=a\n", "10 path=a\n", "9 path=a\n\n", "9 path=a\nx", "9 path=a\n9 path=b", " 9 path=a\n", "09 path=a\n", "010 path=a\n", "+9 path=a\n", "+10 path=a\n", "-9 path=a\n", "9  path=a\n", "10  path=a\n", "9\tpath=a\n", "9path=a\n", "path=a\n", "path", "\n", "0 \n", "1 \n", "2 \n", "3 \n", "0", "5", "1", "4 =\n", "5 =a\n", "5 a \n", "6 a=\x00", "6 k a\n", "7 k v=\n", "8 k\x00=v1\n", "7 k\n=v\n", "6 key\n", "5 k=v\n", "7 k=v\n", "99999999999999999999 k=v\n", "18446744073709551622 k=v\n", "9223372036854775807 k=v\n", "0x6 k=v\n", "6 k=v\n\x00", "\x00", "6_ k=v\n", "٦ k=v\n", "9 path=a\r", "6 k=v\r", "09 k=abc\n\n"} {
		if l, e := pax.Decode(s); e != api.ErrForm || len(l) != 0 {
			t.Errorf("%q: %v, %d", s, l, e)
		}
	}
}

// P10.2: how long it may be.
func TestDecodeLong(t *testing.T) {
	p := api.Pair{Key: "k", Value: strings.Repeat("v", 1<<20-len("1048576 k=\n"))}
	s := record(p)
	if l, e := pax.Decode(s); len(s) != 1<<20 || e != api.OK || !slices.Equal(l, []api.Pair{p}) {
		t.Errorf("%d bytes: %d", len(s), e)
	}
	if l, e := pax.Decode(s + "6 k=v\n"); e != api.ErrLong || len(l) != 0 {
		t.Errorf("more than may be: %d", e)
	}
	if _, e := pax.Decode(strings.Repeat("x", 1<<20)); e != api.ErrForm {
		t.Errorf("nonsense: %d", e)
	}
	if _, e := pax.Decode(strings.Repeat("x", 1<<20+1)); e != api.ErrLong {
		t.Errorf("long nonsense: %d", e)
	}
}

// P10.1
func TestLast(t *testing.T) {
	l := pairs()
	for key, want := range map[string]string{"path": "\n", "k": "", "x": "=\n9 path=a\n", "é": "a=b\nc\x00 d"} {
		if got, ok := pax.Last(l, key); got != want || !ok {
			t.Errorf("%q: %q, %v", key, got, ok)
		}
	}
	for _, key := range []string{"", "p", "pat", "paths", "K"} {
		if got, ok := pax.Last(l, key); got != "" || ok {
			t.Errorf("%q: %q, %v", key, got, ok)
		}
	}
	if got, ok := pax.Last(nil, "k"); got != "" || ok {
		t.Errorf("of none: %q, %v", got, ok)
	}
	if got, ok := pax.Last([]api.Pair{{Key: "", Value: "v"}, {Key: "a b", Value: "w"}}, ""); got != "v" || !ok {
		t.Errorf("of a key that may not be: %q, %v", got, ok)
	}
	if got, _ := pax.Last([]api.Pair{{Key: "k", Value: "1"}, {Key: "k", Value: "2"}, {Key: "j", Value: "3"}}, "k"); got != "2" {
		t.Errorf("the last: %q", got)
	}
}

// P10.3: what is read is written as it was.
func TestBack(t *testing.T) {
	for _, s := range []string{"", "9 path=a\n", "6 k=v\n6 k=v\n", "5 k=\n", "11 k==\n\n\n\n\n", "13 mtime=1.5\n"} {
		l, e := pax.Decode(s)
		if e != api.OK {
			t.Errorf("%q: %d", s, e)
			continue
		}
		if got, e := pax.Encode(l); got != s || e != api.OK {
			t.Errorf("%q: %q, %d", s, got, e)
		}
	}
}

// P10.2: what others write is read.
func TestOthers(t *testing.T) {
	name := strings.Repeat("n", 150)
	var b bytes.Buffer
	w := tar.NewWriter(&b)
	if err := w.WriteHeader(&tar.Header{Typeflag: tar.TypeReg, Name: name, Format: tar.FormatPAX, PAXRecords: map[string]string{"A.b": "c"}}); err != nil {
		t.Fatal(err)
	}
	body := strings.TrimRight(b.String()[512:1024], "\x00")
	l, e := pax.Decode(body)
	if e != api.OK || !slices.Equal(l, []api.Pair{{Key: "A.b", Value: "c"}, {Key: "path", Value: name}}) {
		t.Errorf("%q: %v, %d", body, l, e)
	}
}

// What is handed in isn't changed.
func TestUnchanged(t *testing.T) {
	l := append(make([]api.Pair, 0, 20), pairs()...)
	pax.Encode(l[:2])
	pax.Last(l, "k")
	if !slices.Equal(l, pairs()) {
		t.Error("the records were changed")
	}
}
