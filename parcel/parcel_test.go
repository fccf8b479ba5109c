package parcel_test

import (
	"crypto/ed25519"
	"crypto/sha256"
	"fmt"
	"reflect"
	"slices"
	"strings"
	"testing"

	"holdall/api"
	"holdall/manifest"
	"holdall/parcel"
	"holdall/tape"
)

func seedOf(b byte) string { return strings.Repeat(string([]byte{b}), 32) }

func keyOf(b byte) string {
	return string(ed25519.NewKeyFromSeed([]byte(seedOf(b))).Public().(ed25519.PublicKey))
}

func sign(b byte, msg string) string {
	return string(ed25519.Sign(ed25519.NewKeyFromSeed([]byte(seedOf(b))), []byte(msg)))
}

func sum(s string) string {
	h := sha256.Sum256([]byte(s))
	return string(h[:])
}

func sample() (api.Manifest, []api.Member) {
	l := []api.Member{
		{Path: "d", Kind: api.KindDir, Mode: 0755, Uid: 1, Gid: 2, Time: 3},
		{Path: "d/c", Kind: api.KindFile, Mode: 0600, Data: "conf"},
		{Path: "d/f", Kind: api.KindFile, Mode: 0644, Data: "hi"},
		{Path: "d/l", Kind: api.KindLink, Mode: 0777, Target: "f"},
	}
	m := api.Manifest{Name: "a", Version: "1", Needs: []api.Rule{{Name: "b"}}, Entries: []api.Entry{
		{Path: "d", Kind: api.KindDir, Mode: 0755},
		{Path: "d/c", Kind: api.KindConf, Mode: 0600, Sum: sum("conf")},
		{Path: "d/f", Kind: api.KindFile, Mode: 0644, Sum: sum("hi")},
		{Path: "d/l", Kind: api.KindLink, Target: "f"},
	}}
	return m, l
}

func same(a, b api.Manifest) bool {
	return fmt.Sprintf("%q", []any{a}) == fmt.Sprintf("%q", []any{b})
}

var sig = strings.Repeat("s", 64)

// wrapped is a package, put together by hand.
func wrapped(sig, text, archive string) string {
	n := len(text)
	return "HOLD1\n" + sig + string([]byte{byte(n >> 24), byte(n >> 16), byte(n >> 8), byte(n)}) + text + archive
}

// P14.1
func TestWrap(t *testing.T) {
	big := strings.Repeat("x", 1<<20)
	for _, p := range []api.Parcel{{Sig: sig}, {Sig: sig, Text: "text", Archive: "archive"}, {Sig: sig, Text: big}, {Sig: sig, Archive: big}, {Sig: sig, Text: big, Archive: big}, {Sig: sig, Text: big[:70000], Archive: "\x00"}} {
		s, e := parcel.Wrap(p)
		if s != wrapped(p.Sig, p.Text, p.Archive) || e != api.OK {
			t.Errorf("%d and %d bytes: %.90q, %d", len(p.Text), len(p.Archive), s, e)
		}
		if got, e := parcel.Unwrap(s); got != p || e != api.OK {
			t.Errorf("%d and %d bytes aren't unwrapped: %d", len(p.Text), len(p.Archive), e)
		}
	}
	for i, c := range []struct {
		p api.Parcel
		e api.Errno
	}{
		{api.Parcel{}, api.ErrArg}, {api.Parcel{Sig: sig[1:]}, api.ErrArg}, {api.Parcel{Sig: sig + "s"}, api.ErrArg}, {api.Parcel{Sig: "s", Text: big + "x"}, api.ErrArg},
		{api.Parcel{Sig: sig, Text: big + "x"}, api.ErrLong}, {api.Parcel{Sig: sig, Archive: big + "x"}, api.ErrLong},
	} {
		if s, e := parcel.Wrap(c.p); s != "" || e != c.e {
			t.Errorf("%d: %d bytes, %d", i, len(s), e)
		}
	}
}

// P14.1
func TestUnwrapWrong(t *testing.T) {
	big := strings.Repeat("x", 1<<20)
	good := wrapped(sig, "text", "")
	for name, c := range map[string]struct {
		s string
		e api.Errno
	}{
		"nothing": {"", api.ErrForm}, "73 bytes": {wrapped(sig, "", "")[:73], api.ErrForm}, "another beginning": {"HOLD2\n" + good[6:], api.ErrForm}, "no LF": {"HOLD1 " + good[6:], api.ErrForm}, "small": {"hold1\n" + good[6:], api.ErrForm},
		"a byte of text lacks": {good[:len(good)-1], api.ErrForm}, "text lacks": {good[:74], api.ErrForm}, "a long text that lacks": {"HOLD1\n" + sig + "\x00\x10\x00\x00", api.ErrForm},
		"a text that is too long": {"HOLD1\n" + sig + "\x00\x10\x00\x01", api.ErrLong}, "it is there": {wrapped(sig, big+"x", ""), api.ErrLong}, "the longest": {"HOLD1\n" + sig + "\xff\xff\xff\xff" + big, api.ErrLong}, "a wrong beginning and a long text": {"HOLD1." + sig + "\xff\xff\xff\xff", api.ErrForm},
		"a long archive": {wrapped(sig, "t", big+"x"), api.ErrLong}, "a long archive without a text": {wrapped(sig, "", big+"x"), api.ErrLong},
	} {
		if p, e := parcel.Unwrap(c.s); p != (api.Parcel{}) || e != c.e {
			t.Errorf("%s: %d", name, e)
		}
	}
	if p, e := parcel.Unwrap(wrapped(sig, "", "")); p != (api.Parcel{Sig: sig}) || e != api.OK {
		t.Errorf("74 bytes: %d", e)
	}
}

// P14.2
func TestBuild(t *testing.T) {
	m, l := sample()
	text, _ := manifest.Print(m)
	archive, _ := tape.Write(l)
	if s, e := parcel.Build(seedOf(1), m, l); s != wrapped(sign(1, text), text, archive) || e != api.OK {
		t.Errorf("%.100q, %d", s, e)
	}
	// What doesn't match is built all the same.
	if s, e := parcel.Build(seedOf(1), m, nil); s != wrapped(sign(1, text), text, strings.Repeat("\x00", 1024)) || e != api.OK {
		t.Errorf("without members: %.100q, %d", s, e)
	}
	for i, c := range []struct {
		seed string
		name string
		l    []api.Member
		e    api.Errno
	}{
		{seedOf(1), "A", l, api.ErrArg}, {"", "A", []api.Member{{Path: "/"}}, api.ErrArg},
		{seedOf(1), "a", []api.Member{{Path: "/"}}, api.ErrPath}, {"", "a", []api.Member{{Path: "/"}}, api.ErrPath}, {seedOf(1), "a", make([]api.Member, 65), api.ErrLong},
		{"", "a", l, api.ErrArg}, {seedOf(1)[1:], "a", l, api.ErrArg}, {seedOf(1) + "x", "a", l, api.ErrArg},
	} {
		m.Name = c.name
		if s, e := parcel.Build(c.seed, m, c.l); s != "" || e != c.e {
			t.Errorf("%d: %d bytes, %d", i, len(s), e)
		}
	}
	m.Name = "a"
	m.Entries = append(m.Entries, api.Entry{Path: "/", Kind: api.KindDir})
	if _, e := parcel.Build("", m, make([]api.Member, 65)); e != api.ErrPath {
		t.Errorf("the manifest's error comes first: %d", e)
	}
}

// changed is the sample with something else in it.
func changed(f func(m *api.Manifest, l []api.Member)) (api.Manifest, []api.Member) {
	m, l := sample()
	f(&m, l)
	return m, l
}

// P14.2: each of what must be alike.
func TestMatch(t *testing.T) {
	yes := map[string]func(m *api.Manifest, l []api.Member){
		"the sample":             func(m *api.Manifest, l []api.Member) {},
		"owners don't count":     func(m *api.Manifest, l []api.Member) { l[1].Uid, l[1].Gid, l[1].Time = 9, 9, 9 },
		"a link's mode doesn't":  func(m *api.Manifest, l []api.Member) { l[3].Mode = 0 },
		"an entry's link's mode": func(m *api.Manifest, l []api.Member) { m.Entries[3].Mode = 7 },
		"no bytes":               func(m *api.Manifest, l []api.Member) { l[2].Data, m.Entries[2].Sum = "", sum("") },
		"57 sectors": func(m *api.Manifest, l []api.Member) {
			l[2].Data = strings.Repeat("x", 14592)
			m.Entries[2].Sum = sum(l[2].Data)
		},
		"a directory's sum doesn't": func(m *api.Manifest, l []api.Member) { m.Entries[0].Sum = "x" },
		"a name that may not be":    func(m *api.Manifest, l []api.Member) { m.Name = " " },
	}
	no := map[string]func(m *api.Manifest, l []api.Member){
		"a path":               func(m *api.Manifest, l []api.Member) { l[2].Path = "d/g" },
		"a file's mode":        func(m *api.Manifest, l []api.Member) { l[2].Mode = 0645 },
		"a config file's mode": func(m *api.Manifest, l []api.Member) { l[1].Mode = 0 },
		"a directory's mode":   func(m *api.Manifest, l []api.Member) { l[0].Mode = 0700 },
		"a file's bytes":       func(m *api.Manifest, l []api.Member) { l[2].Data = "ho" },
		"a config file's":      func(m *api.Manifest, l []api.Member) { l[1].Data = "" },
		"a sum in signs":       func(m *api.Manifest, l []api.Member) { m.Entries[2].Sum = "00" },
		"a link's target":      func(m *api.Manifest, l []api.Member) { l[3].Target = "g" },
		"a file's target":      func(m *api.Manifest, l []api.Member) { l[2].Target = "g" },
		"another kind":         func(m *api.Manifest, l []api.Member) { l[0].Kind = api.KindFile },
		"a hard one":           func(m *api.Manifest, l []api.Member) { l[3].Kind = api.KindHard },
		"a config file as one": func(m *api.Manifest, l []api.Member) { l[1].Kind = api.KindConf },
		"a byte too many": func(m *api.Manifest, l []api.Member) {
			l[2].Data = strings.Repeat("x", 14593)
			m.Entries[2].Sum = sum(l[2].Data)
		},
		"an entry more":  func(m *api.Manifest, l []api.Member) { m.Entries = append(m.Entries, m.Entries[0]) },
		"an entry less":  func(m *api.Manifest, l []api.Member) { m.Entries = m.Entries[:3] },
		"another order":  func(m *api.Manifest, l []api.Member) { l[1], l[2] = l[2], l[1] },
		"the other kind": func(m *api.Manifest, l []api.Member) { m.Entries[0].Kind = api.KindLink },
	}
	for name, f := range yes {
		if m, l := changed(f); !parcel.Match(m, l) {
			t.Errorf("%s: false", name)
		}
	}
	for name, f := range no {
		m, l := changed(f)
		if parcel.Match(m, l) {
			t.Errorf("%s: true", name)
		}
		if s, e := parcel.Build(seedOf(1), m, l); e == api.OK {
			if got, gl, e := parcel.Open(s, []string{keyOf(1)}); e != api.ErrMatch || !same(got, api.Manifest{}) || len(gl) != 0 {
				t.Errorf("%s, opened: %d", name, e)
			}
		}
	}
	if !parcel.Match(api.Manifest{}, nil) || parcel.Match(api.Manifest{}, make([]api.Member, 1)) {
		t.Error("nothing, and one member too many")
	}
}

// P14.3, P14.4: what was built is opened, by any of the ring's keys.
func TestOpen(t *testing.T) {
	m, l := sample()
	s, _ := parcel.Build(seedOf(1), m, l)
	other := []string{keyOf(2), "", keyOf(3), "x", keyOf(4), keyOf(5), keyOf(6)}
	for _, ring := range [][]string{{keyOf(1)}, {keyOf(2), keyOf(1)}, {"", "nonsense", keyOf(1)}, append(slices.Clone(other), keyOf(1)), {keyOf(1), keyOf(1)}} {
		got, gl, e := parcel.Open(s, ring)
		if e != api.OK || !same(got, m) || !reflect.DeepEqual(gl, l) {
			t.Errorf("%d keys: %v, %v, %d", len(ring), got, gl, e)
		}
	}
	ninth := append(slices.Clone(other), keyOf(7), keyOf(1))
	for _, ring := range [][]string{nil, {}, {keyOf(2)}, {""}, {keyOf(1)[1:]}, {keyOf(1) + "x"}, other, ninth} {
		if got, gl, e := parcel.Open(s, ring); e != api.ErrSign || !same(got, api.Manifest{}) || len(gl) != 0 {
			t.Errorf("%d keys: %d", len(ring), e)
		}
	}
}

// P14.3: errors, and which comes first.
func TestOpenErrors(t *testing.T) {
	m, l := sample()
	text, _ := manifest.Print(m)
	archive, _ := tape.Write(l)
	ring := []string{keyOf(1)}
	pack := func(text, archive string) string { return wrapped(sign(1, text), text, archive) }
	for name, c := range map[string]struct {
		s string
		e api.Errno
	}{
		"nothing": {"", api.ErrForm}, "half": {pack(text, "")[:100], api.ErrForm}, "long": {pack(text, strings.Repeat("\x00", 1<<20+1)), api.ErrLong},
		"signed by another": {wrapped(sign(2, text), text, archive), api.ErrSign}, "signed with the archive": {wrapped(sign(1, text+archive), text, archive), api.ErrSign}, "another text": {wrapped(sign(1, text), text+"dir 0755 z\n", archive), api.ErrSign}, "signed by another, nonsense": {wrapped(sign(2, "x"), "x", "x"), api.ErrSign},
		"no manifest": {pack("x", archive), api.ErrForm}, "a manifest that may not be": {pack(strings.Replace(text, "name a", "name A", 1), "x"), api.ErrArg}, "a path that leads out": {pack(strings.Replace(text, " d\n", " ..\n", 1), archive), api.ErrPath},
		"no archive": {pack(text, ""), api.ErrForm}, "half an archive": {pack(text, archive[:len(archive)-1]), api.ErrForm}, "an archive's path": {pack(text, strings.Replace(archive, "d/c", "../c", 1)), api.ErrForm},
		"another archive": {pack(text, strings.Repeat("\x00", 1024)), api.ErrMatch},
	} {
		if got, gl, e := parcel.Open(c.s, ring); e != c.e || !same(got, api.Manifest{}) || len(gl) != 0 {
			t.Errorf("%s: %d, want %d", name, e, c.e)
		}
	}
}

// P14.4: whatever byte is turned, what is opened was signed, and its files have their sums.
func TestTurned(t *testing.T) {
	m, l := sample()
	s, _ := parcel.Build(seedOf(1), m, l)
	for i := 0; i < len(s); i++ {
		// Most of an archive is bytes 0; not each of them needs to be turned.
		if i > 600 && i%7 != 0 && s[i] == 0 {
			continue
		}
		b := []byte(s)
		b[i] ^= 1 << (i % 8)
		got, gl, e := parcel.Open(string(b), []string{keyOf(1)})
		if e != api.OK {
			continue
		}
		if !same(got, m) || len(gl) != len(l) {
			t.Fatalf("byte %d: %v", i, got)
		}
		for j, x := range gl {
			if x.Data != l[j].Data || x.Path != l[j].Path || x.Target != l[j].Target || x.Kind != l[j].Kind {
				t.Errorf("byte %d: %v", i, x)
			}
		}
	}
}

// What is handed in isn't changed.
func TestUnchanged(t *testing.T) {
	m, l := sample()
	ring := []string{keyOf(1), keyOf(2)}
	s, _ := parcel.Build(seedOf(1), m, l)
	parcel.Open(s, ring)
	wm, wl := sample()
	if !same(m, wm) || !reflect.DeepEqual(l, wl) || ring[0] != keyOf(1) {
		t.Error("something was changed")
	}
}
