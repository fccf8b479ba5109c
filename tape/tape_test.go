package tape_test

import (
	"archive/tar"
	"bytes"
	"io"
	"math"
	"slices"
	"strings"
	"testing"
	"time"

	"holdall/api"
	"holdall/header"
	"holdall/pax"
	"holdall/tape"
)

func zeros(n int) string { return strings.Repeat("\x00", n) }

// filled is s up to the end of a block.
func filled(s string) string { return s + zeros((512-len(s)%512)%512) }

func block(t *testing.T, h api.Header) string {
	t.Helper()
	s, e := header.Encode(h)
	if e != api.OK {
		t.Fatalf("header %v: %d", h, e)
	}
	return s
}

// head is a header's block and its bytes, which Size counts.
func head(t *testing.T, h api.Header, data string) string {
	t.Helper()
	h.Size = len(data)
	return block(t, h) + filled(data)
}

// more is an extended header.
func more(t *testing.T, flag byte, l ...api.Pair) string {
	t.Helper()
	s, e := pax.Encode(l)
	if e != api.OK {
		t.Fatalf("records %v: %d", l, e)
	}
	return head(t, api.Header{Name: "more", Mode: 0644, Flag: flag}, s)
}

const end = 1024

// sample are members of all kinds, with long texts among them.
func sample() []api.Member {
	deep := strings.Repeat("d", 60) + "/" + strings.Repeat("e", 60)
	return []api.Member{
		{Path: "etc", Kind: api.KindDir, Mode: 0755, Uid: 1, Gid: 2, Time: 3},
		{Path: "etc/a", Kind: api.KindFile, Mode: 0644, Uid: math.MaxUint32, Gid: math.MaxUint32, Time: 1 << 40, Data: "hi"},
		{Path: "etc/b", Kind: api.KindLink, Mode: 0777, Target: "/usr//x/"},
		{Path: "etc/c", Kind: api.KindHard, Mode: 07777, Target: "etc/a"},
		{Path: deep, Kind: api.KindFile, Data: strings.Repeat("x", 512)},
		{Path: "l", Kind: api.KindLink, Target: strings.Repeat("t/", 80)},
		{Path: deep + "x", Kind: api.KindHard, Target: deep},
		{Path: "é" + strings.Repeat("é", 30), Kind: api.KindDir, Time: math.MaxInt},
		{Path: strings.Repeat("f", 50) + "/" + strings.Repeat("g", 49), Kind: api.KindFile, Data: strings.Repeat("y", 513)},
	}
}

// written is the chapter's archive of members.
func written(t *testing.T, l []api.Member) string {
	t.Helper()
	out := ""
	for _, m := range l {
		var records []api.Pair
		if len(m.Path) > 100 {
			records = append(records, api.Pair{Key: "path", Value: m.Path})
		}
		if len(m.Target) > 100 {
			records = append(records, api.Pair{Key: "linkpath", Value: m.Target})
		}
		if len(records) > 0 {
			out += more(t, 'x', records...)
		}
		h := api.Header{Name: m.Path, Link: m.Target, Mode: m.Mode, Uid: m.Uid, Gid: m.Gid, Time: m.Time, Flag: " 0521"[m.Kind]}
		h.Name, h.Link = h.Name[:min(100, len(h.Name))], h.Link[:min(100, len(h.Link))]
		out += head(t, h, m.Data)
	}
	return out + zeros(end)
}

// P11.2
func TestWrite(t *testing.T) {
	if got, e := tape.Write(nil); got != zeros(end) || e != api.OK {
		t.Errorf("of none: %d bytes, %d", len(got), e)
	}
	l := sample()
	for i := range l {
		if got, e := tape.Write(l[:i+1]); got != written(t, l[:i+1]) || e != api.OK {
			t.Errorf("%d members: %d bytes, %d", i+1, len(got), e)
		}
	}
	both := []api.Member{{Path: strings.Repeat("p/", 5) + strings.Repeat("q", 50) + "/" + strings.Repeat("r", 50), Kind: api.KindLink, Target: strings.Repeat("t", 101)}}
	if got, e := tape.Write(both); got != written(t, both) || e != api.OK {
		t.Errorf("both long: %d bytes, %d", len(got), e)
	}
	edge := []api.Member{{Path: strings.Repeat("p", 50) + "/" + strings.Repeat("q", 49), Kind: api.KindLink, Target: strings.Repeat("t", 100)}}
	if got, e := tape.Write(edge); got != written(t, edge) || len(got) != 512+end || e != api.OK {
		t.Errorf("100 bytes each: %d bytes, %d", len(got), e)
	}
	a := []api.Member{{Path: "a", Kind: api.KindFile, Mode: 0644, Data: "hi"}}
	got, _ := tape.Write(a)
	if len(got) != 2048 {
		t.Errorf("the example: %d bytes", len(got))
	}
	if _, e := tape.Read(got[:2047]); e != api.ErrForm {
		t.Errorf("the example: %d", e)
	}
}

// P11.1: errors, and which comes first.
func TestCheck(t *testing.T) {
	big := strings.Repeat("x", 1<<20)
	long := strings.Repeat("a", 201)
	file := api.Member{Path: "a", Kind: api.KindFile}
	for i, c := range []struct {
		m api.Member
		e api.Errno
	}{
		{file, api.OK}, {api.Member{Path: "a", Kind: api.KindDir}, api.OK}, {api.Member{Path: ".holdall/a", Kind: api.KindDir}, api.OK},
		{api.Member{}, api.ErrPath}, {api.Member{Path: "/a", Kind: 1}, api.ErrPath}, {api.Member{Path: "a/", Kind: 2}, api.ErrPath}, {api.Member{Path: long, Kind: 1}, api.ErrLong}, {api.Member{Path: "a/../b", Kind: 9, Mode: -1}, api.ErrPath},
		{api.Member{Path: "a"}, api.ErrArg}, {api.Member{Path: "a", Kind: 5}, api.ErrArg}, {api.Member{Path: "a", Kind: -1}, api.ErrArg}, {api.Member{Path: "a", Kind: math.MaxInt}, api.ErrArg},
		{api.Member{Path: "a", Kind: 1, Mode: 07777, Uid: 1<<32 - 1, Gid: 1<<32 - 1, Time: math.MaxInt, Data: big}, api.OK},
		{api.Member{Path: "a", Kind: 1, Mode: 010000}, api.ErrArg}, {api.Member{Path: "a", Kind: 1, Mode: -1}, api.ErrArg},
		{api.Member{Path: "a", Kind: 1, Uid: 1 << 32}, api.ErrArg}, {api.Member{Path: "a", Kind: 1, Uid: -1}, api.ErrArg}, {api.Member{Path: "a", Kind: 1, Gid: 1 << 32}, api.ErrArg}, {api.Member{Path: "a", Kind: 1, Gid: -1}, api.ErrArg},
		{api.Member{Path: "a", Kind: 1, Time: -1}, api.ErrArg}, {api.Member{Path: "a", Kind: 1, Time: math.MinInt}, api.ErrArg},
		{api.Member{Path: "a", Kind: 2, Data: "x"}, api.ErrArg}, {api.Member{Path: "a", Kind: 3, Data: "x", Target: "b"}, api.ErrArg}, {api.Member{Path: "a", Kind: 4, Data: "x", Target: "b"}, api.ErrArg}, {api.Member{Path: "a", Kind: 3, Data: "x"}, api.ErrArg}, {api.Member{Path: "a", Kind: 4, Data: big + "x", Target: "/"}, api.ErrArg},
		{api.Member{Path: "a", Kind: 1, Target: "b"}, api.ErrArg}, {api.Member{Path: "a", Kind: 2, Target: "b"}, api.ErrArg}, {api.Member{Path: "a", Kind: 1, Target: "b", Data: big + "x"}, api.ErrArg},
		{api.Member{Path: "a", Kind: 3, Target: "../../b"}, api.OK}, {api.Member{Path: "a", Kind: 3}, api.ErrPath}, {api.Member{Path: "a", Kind: 3, Target: "a b"}, api.ErrPath}, {api.Member{Path: "a", Kind: 3, Target: long}, api.ErrPath}, {api.Member{Path: "a", Kind: 3, Target: long[:200]}, api.OK},
		{api.Member{Path: "a", Kind: 1, Data: big + "x"}, api.ErrLong},
		{api.Member{Path: "a", Kind: 4, Target: "b/c"}, api.OK}, {api.Member{Path: "a", Kind: 4}, api.ErrPath}, {api.Member{Path: "a", Kind: 4, Target: "/b"}, api.ErrPath}, {api.Member{Path: "a", Kind: 4, Target: long}, api.ErrLong}, {api.Member{Path: "a", Kind: 4, Target: strings.Repeat("a/", 17) + "a"}, api.ErrLong}, {api.Member{Path: "a", Kind: 4, Target: "../b"}, api.ErrPath},
	} {
		if got := tape.Check(c.m); got != c.e {
			t.Errorf("%d: %d, want %d", i, got, c.e)
		}
		if got, e := tape.Write([]api.Member{file, c.m}); c.e != api.OK && (got != "" || e != c.e) {
			t.Errorf("%d, written: %d, want %d", i, e, c.e)
		}
	}
}

// P11.1: how many, how long.
func TestWriteLong(t *testing.T) {
	l := slices.Repeat([]api.Member{{Path: "a", Kind: api.KindDir}}, 65)
	if got, e := tape.Write(l[:64]); e != api.OK || len(got) != 64*512+end {
		t.Errorf("64 members: %d bytes, %d", len(got), e)
	}
	if got, e := tape.Write(l); e != api.ErrLong || got != "" {
		t.Errorf("65 members: %d", e)
	}
	l[0].Kind = 9
	if _, e := tape.Write(l); e != api.ErrLong {
		t.Errorf("65 members, a wrong one among them: %d", e)
	}
	if _, e := tape.Write(l[:64]); e != api.ErrArg {
		t.Errorf("a wrong one: %d", e)
	}
	full := api.Member{Path: "a", Kind: api.KindFile, Data: strings.Repeat("x", 1<<20-512)}
	if got, e := tape.Write([]api.Member{full}); e != api.OK || len(got) != 1<<20+end {
		t.Errorf("all the room: %d bytes, %d", len(got), e)
	}
	over := full
	over.Data += "x"
	wrong := api.Member{Path: "a", Kind: 9}
	for i, l := range [][]api.Member{{over}, {full, {Path: "b", Kind: api.KindDir}}, {over, wrong}} {
		if got, e := tape.Write(l); e != api.ErrLong || got != "" {
			t.Errorf("%d, too long: %d", i, e)
		}
	}
	if _, e := tape.Write([]api.Member{full, wrong}); e != api.ErrArg {
		t.Errorf("a wrong one behind a full one: %d", e)
	}
}

// P11.3
func TestThereAndBack(t *testing.T) {
	l := sample()
	for i := 0; i <= len(l); i++ {
		s, _ := tape.Write(l[:i])
		got, e := tape.Read(s)
		if e != api.OK || !slices.Equal(got, l[:i]) {
			t.Errorf("%d members: %v, %d", i, got, e)
		}
		for _, m := range got {
			if tape.Check(m) != api.OK {
				t.Errorf("%v was read, but may not be", m)
			}
		}
	}
}

func read(t *testing.T, what, s string, want ...api.Member) {
	t.Helper()
	got, e := tape.Read(s)
	if e != api.OK || !slices.Equal(got, want) {
		t.Errorf("%s: %v, %d, want %v", what, got, e, want)
	}
}

func refuse(t *testing.T, what, s string, want api.Errno) {
	t.Helper()
	got, e := tape.Read(s)
	if e != want || len(got) != 0 {
		t.Errorf("%s: %v, %d, want %d", what, got, e, want)
	}
}

// P11.2: members as others may write them.
func TestReadMembers(t *testing.T) {
	z := zeros(end)
	file := api.Member{Path: "a", Kind: api.KindFile, Data: "hi"}
	read(t, "nothing", z)
	read(t, "nothing, and more of it", z+zeros(1000))
	read(t, "a byte 0 as flag", head(t, api.Header{Name: "a"}, "hi")+z, file)
	read(t, "flag 0", head(t, api.Header{Name: "a", Flag: '0'}, "hi")+z, file)
	read(t, "a prefix", head(t, api.Header{Name: "a", Prefix: "p/q", Flag: '0'}, "hi")+z, api.Member{Path: "p/q/a", Kind: 1, Data: "hi"})
	read(t, "a directory with /", head(t, api.Header{Name: "d/", Prefix: "p", Flag: '5', Mode: 0755}, "")+z, api.Member{Path: "p/d", Kind: 2, Mode: 0755})
	read(t, "a directory with a size", block(t, api.Header{Name: "d", Flag: '5', Size: 700})+z, api.Member{Path: "d", Kind: 2})
	read(t, "a link with a size, a file's size elsewhere", block(t, api.Header{Name: "l", Link: "t", Flag: '2', Size: 1 << 40})+head(t, api.Header{Name: "a", Flag: '0'}, "hi")+z, api.Member{Path: "l", Kind: 3, Target: "t"}, file)
	read(t, "a hard one with a size", block(t, api.Header{Name: "h", Link: "t", Flag: '1', Size: 1})+z, api.Member{Path: "h", Kind: 4, Target: "t"})
	read(t, "a link's name in a file doesn't count", head(t, api.Header{Name: "a", Link: "t", Flag: '0'}, "hi")+head(t, api.Header{Name: "d", Link: "t", Flag: '5'}, "")+z, file, api.Member{Path: "d", Kind: 2})
	read(t, "the same path twice", head(t, api.Header{Name: "a"}, "hi")+head(t, api.Header{Name: "a"}, "hi")+z, file, file)
	refuse(t, "a directory with two /", head(t, api.Header{Name: "d//", Flag: '5'}, "")+z, api.ErrPath)
	refuse(t, "a directory / alone", head(t, api.Header{Name: "/", Flag: '5'}, "")+z, api.ErrPath)
	refuse(t, "a file with /", head(t, api.Header{Name: "a/", Flag: '0'}, "")+z, api.ErrPath)
	refuse(t, "no name", head(t, api.Header{Flag: '0'}, "")+z, api.ErrPath)
	refuse(t, "a prefix, no name", head(t, api.Header{Prefix: "p", Flag: '0'}, "")+z, api.ErrPath)
	refuse(t, "a root", head(t, api.Header{Name: "/a", Flag: '0'}, "")+z, api.ErrPath)
	refuse(t, "up", head(t, api.Header{Name: "../a", Flag: '0'}, "")+z, api.ErrPath)
	refuse(t, "a mode", head(t, api.Header{Name: "a", Mode: 0100644}, "")+z, api.ErrArg)
	refuse(t, "a long path", head(t, api.Header{Name: strings.Repeat("n/", 49) + "n", Prefix: strings.Repeat("p", 120)}, "")+z, api.ErrLong)
	refuse(t, "a link without a target", head(t, api.Header{Name: "l", Flag: '2'}, "")+z, api.ErrPath)
	for flag := 0; flag < 256; flag++ {
		s := head(t, api.Header{Name: "a", Link: "t", Flag: byte(flag)}, "") + z
		if strings.IndexByte("0125xg\x00", byte(flag)) < 0 {
			refuse(t, "flag "+string([]byte{byte(flag)}), s, api.ErrForm)
		}
	}
}

func pair(key, value string) api.Pair { return api.Pair{Key: key, Value: value} }

// P11.2: records, for one member and for all.
func TestReadRecords(t *testing.T) {
	z := zeros(end)
	a := func(data string) string {
		return head(t, api.Header{Name: "a", Flag: '0', Uid: 1, Gid: 2, Time: 3}, data)
	}
	m := func(path, data string, uid, gid, time int) api.Member {
		return api.Member{Path: path, Kind: 1, Data: data, Uid: uid, Gid: gid, Time: time}
	}
	plain := m("a", "hi", 1, 2, 3)
	read(t, "x for one", more(t, 'x', pair("path", "b/c"), pair("uid", "7"), pair("gid", "008"), pair("mtime", "999999999999999999"))+a("hi")+a("hi")+z, m("b/c", "hi", 7, 8, 999999999999999999), plain)
	read(t, "g for all", more(t, 'g', pair("uid", "7"))+a("hi")+more(t, 'g', pair("gid", "8"))+a("hi")+z, m("a", "hi", 7, 2, 3), m("a", "hi", 7, 8, 3))
	read(t, "g, and g again", more(t, 'g', pair("uid", "7"), pair("gid", "5"))+more(t, 'g', pair("uid", "8"))+a("hi")+z, m("a", "hi", 8, 5, 3))
	read(t, "x ahead of g", more(t, 'x', pair("uid", "9"))+more(t, 'g', pair("uid", "7"), pair("gid", "8"))+a("hi")+a("hi")+z, m("a", "hi", 9, 8, 3), m("a", "hi", 7, 8, 3))
	read(t, "the last of a key", more(t, 'x', pair("uid", "4"), pair("uid", "5"), pair("gid", "6"))+a("hi")+z, m("a", "hi", 5, 6, 3))
	read(t, "other keys", more(t, 'x', pair("comment", "c"), pair("atime", "1.5"), pair("Path", "x"))+a("hi")+z, plain)
	read(t, "no records", more(t, 'x')+more(t, 'g')+a("hi")+z, plain)
	read(t, "a path ahead of a prefix", more(t, 'x', pair("path", "b"))+head(t, api.Header{Name: "\xff", Prefix: "p", Flag: '0'}, "")+z, m("b", "", 0, 0, 0))
	read(t, "a directory's path", more(t, 'x', pair("path", "b/"))+head(t, api.Header{Name: "a", Flag: '5'}, "")+z, api.Member{Path: "b", Kind: 2})
	read(t, "a link's target", more(t, 'x', pair("linkpath", "/x/"))+head(t, api.Header{Name: "a", Link: "t", Flag: '2'}, "")+z, api.Member{Path: "a", Kind: 3, Target: "/x/"})
	read(t, "a hard one's target", more(t, 'x', pair("linkpath", "x"))+head(t, api.Header{Name: "a", Link: "t", Flag: '1'}, "")+z, api.Member{Path: "a", Kind: 4, Target: "x"})
	read(t, "a file's linkpath", more(t, 'x', pair("linkpath", "x"))+a("hi")+z, plain)
	read(t, "a size", more(t, 'x', pair("size", "0002"))+block(t, api.Header{Name: "a", Flag: '0', Size: 1 << 30})+filled("hi")+a("hi")+z, m("a", "hi", 0, 0, 0), plain)
	read(t, "a directory's size", more(t, 'x', pair("size", "x"))+head(t, api.Header{Name: "d", Flag: '5'}, "")+z, api.Member{Path: "d", Kind: 2})
	refuse(t, "an empty path", more(t, 'x', pair("path", ""))+a("hi")+z, api.ErrPath)
	refuse(t, "an empty target", more(t, 'x', pair("linkpath", ""))+head(t, api.Header{Name: "a", Link: "t", Flag: '2'}, "")+z, api.ErrPath)
	for _, key := range []string{"size", "uid", "gid", "mtime"} {
		for _, value := range []string{"", "x", "-1", "+1", "1.5", " 1", "1 ", "0x1", "1_0", "1000000000000000000", strings.Repeat("0", 19), "١"} {
			for _, flag := range []byte("xg") {
				refuse(t, key+" "+value, more(t, flag, pair(key, value))+a("hi")+z, api.ErrForm)
				refuse(t, key+" "+value+", no bytes", more(t, flag, pair(key, value))+a("")+z, api.ErrForm)
			}
		}
	}
	refuse(t, "a size that is too great", more(t, 'x', pair("size", "1048577"))+a("hi")+z, api.ErrLong)
	refuse(t, "a great size", more(t, 'x', pair("size", "999999999999999999"))+a("hi")+z, api.ErrLong)
	refuse(t, "an owner that is too great", more(t, 'x', pair("uid", "4294967296"))+a("hi")+z, api.ErrArg)
	refuse(t, "a group that is too great", more(t, 'x', pair("gid", "999999999999999999"))+a("hi")+z, api.ErrArg)
}

// P11.2: which fault of a member comes first.
func TestReadOrder(t *testing.T) {
	z := zeros(end)
	a := head(t, api.Header{Name: "/", Mode: 0100000}, "hi") + z
	refuse(t, "path ahead of mode", a, api.ErrPath)
	refuse(t, "uid ahead of path", more(t, 'x', pair("uid", "x"))+a, api.ErrForm)
	refuse(t, "time ahead of path", more(t, 'x', pair("mtime", "x"))+a, api.ErrForm)
	refuse(t, "size ahead of uid", more(t, 'x', pair("uid", "x"), pair("size", "9999999"))+a, api.ErrLong)
	refuse(t, "flag ahead of size", more(t, 'x', pair("size", "9999999"))+head(t, api.Header{Name: "a", Flag: '7'}, "")+z, api.ErrForm)
	full := strings.Repeat(head(t, api.Header{Name: "a"}, ""), 64)
	refuse(t, "check ahead of how many", full+a, api.ErrPath)
	refuse(t, "how many", full+head(t, api.Header{Name: "a"}, "")+z, api.ErrLong)
	refuse(t, "how many ahead of the end", full+head(t, api.Header{Name: "a"}, ""), api.ErrLong)
	if l, e := tape.Read(full + more(t, 'g') + z); e != api.OK || len(l) != 64 {
		t.Errorf("64 members: %d, %d", len(l), e)
	}
}

// P11.2: blocks that are no headers, and bytes that aren't there.
func TestReadBlocks(t *testing.T) {
	z := zeros(end)
	a := head(t, api.Header{Name: "a", Flag: '0'}, "hi")
	refuse(t, "nothing", "", api.ErrForm)
	refuse(t, "a half block", zeros(511), api.ErrForm)
	refuse(t, "a blank block alone", zeros(512), api.ErrForm)
	refuse(t, "a blank block and a half", zeros(1023), api.ErrForm)
	refuse(t, "no end", a, api.ErrForm)
	refuse(t, "a half end", a+zeros(512), api.ErrForm)
	refuse(t, "a second block that isn't blank", a+zeros(512)+a+z, api.ErrForm)
	refuse(t, "a second block that isn't blank, bytes 0 behind it", a+zeros(512)+"x"+zeros(511)+z, api.ErrForm)
	refuse(t, "bytes behind", a+z+"\x01", api.ErrForm)
	refuse(t, "bytes far behind", a+z+zeros(2000)+"x", api.ErrForm)
	refuse(t, "an archive behind", a+z+a+z, api.ErrForm)
	read(t, "bytes 0 behind", a+z+zeros(77), api.Member{Path: "a", Kind: 1, Data: "hi"})
	refuse(t, "a wrong sum", "b"+a[1:]+z, api.ErrForm)
	sized := func(flag byte, size int) string { return block(t, api.Header{Name: "a", Flag: flag, Size: size}) }
	refuse(t, "a number too great", sized('0', math.MaxInt)[:124]+"\x80\xff"+zeros(10)+sized('0', 0)[136:]+z, api.ErrForm)
	for _, flag := range []byte("0xg") {
		what := "flag " + string(flag)
		refuse(t, what+": a size that is too great", sized(flag, 1<<20+1)+z, api.ErrLong)
		refuse(t, what+": the greatest of all", sized(flag, math.MaxInt)+z, api.ErrLong)
		refuse(t, what+": bytes that aren't there", sized(flag, 1<<20)+z, api.ErrForm)
		refuse(t, what+": one byte that isn't there", sized(flag, 1025)+z, api.ErrForm)
		refuse(t, what+": no end of a block", sized(flag, 2)+"hi", api.ErrForm)
		refuse(t, what+": half an end of a block", sized(flag, 2)+"hi"+zeros(509), api.ErrForm)
		refuse(t, what+": no bytes 0 up to a block's end", sized(flag, 2)+"hi"+zeros(509)+"x"+z, api.ErrForm)
	}
	full := strings.Repeat("x", 1<<20)
	read(t, "a great file", head(t, api.Header{Name: "a"}, full)+z, api.Member{Path: "a", Kind: 1, Data: full})
	refuse(t, "too long", zeros(2<<20+1), api.ErrLong)
	read(t, "as long as may be", zeros(2<<20))
}

// P11.2: extended headers that may not stand so.
func TestReadExtended(t *testing.T) {
	z := zeros(end)
	a := head(t, api.Header{Name: "a", Flag: '0'}, "")
	m := api.Member{Path: "a", Kind: 1}
	raw := func(flag byte, s string) string { return head(t, api.Header{Name: "more", Flag: flag}, s) }
	refuse(t, "x twice", more(t, 'x')+more(t, 'x')+a+z, api.ErrForm)
	refuse(t, "x, g, x", more(t, 'x', pair("uid", "1"))+more(t, 'g')+more(t, 'x')+a+z, api.ErrForm)
	read(t, "x for each", more(t, 'x')+a+more(t, 'x')+a+z, m, m)
	read(t, "g twice", more(t, 'g')+more(t, 'g')+a+z, m)
	read(t, "g at the end", a+more(t, 'g')+z, m)
	refuse(t, "x at the end", a+more(t, 'x')+z, api.ErrForm)
	refuse(t, "x alone", more(t, 'x')+z, api.ErrForm)
	for _, flag := range []byte("xg") {
		refuse(t, "records that are none", raw(flag, "nonsense")+a+z, api.ErrForm)
		refuse(t, "a record with bytes 0 behind", raw(flag, "6 k=v\n\x00")+a+z, api.ErrForm)
		refuse(t, "a header's name doesn't count, its sum does", "n"+raw(flag, "")[1:]+a+z, api.ErrForm)
	}
}

// P11.2, P11.3: others read what is written, and the other way round.
func TestOthers(t *testing.T) {
	s, _ := tape.Write(sample())
	r := tar.NewReader(strings.NewReader(s))
	for _, m := range sample() {
		h, err := r.Next()
		if err != nil {
			t.Fatal(err)
		}
		data, _ := io.ReadAll(r)
		if h.Name != m.Path || h.Linkname != m.Target || h.Mode != int64(m.Mode) || h.Uid != m.Uid || string(data) != m.Data {
			t.Errorf("%v: %v", m, h)
		}
	}
	var b bytes.Buffer
	w := tar.NewWriter(&b)
	long := strings.Repeat("n", 60) + "/" + strings.Repeat("m", 60)
	for _, h := range []tar.Header{{Typeflag: tar.TypeDir, Name: "d/", Mode: 0755}, {Typeflag: tar.TypeReg, Name: long, Size: 3, Mode: 0644, Format: tar.FormatPAX, PAXRecords: map[string]string{"X.y": "z"}}, {Typeflag: tar.TypeSymlink, Name: "l", Linkname: "/t"}} {
		h.ModTime = time.Unix(99, 0)
		if err := w.WriteHeader(&h); err != nil {
			t.Fatal(err)
		}
		if h.Size == 3 {
			io.WriteString(w, "abc")
		}
	}
	w.Close()
	read(t, "another's", b.String(), api.Member{Path: "d", Kind: 2, Mode: 0755, Time: 99}, api.Member{Path: long, Kind: 1, Mode: 0644, Time: 99, Data: "abc"}, api.Member{Path: "l", Kind: 3, Time: 99, Target: "/t"})
}

// P11.3: whatever a byte is turned to, what is read may be.
func TestTurned(t *testing.T) {
	s, _ := tape.Write(sample())
	for i := 0; i < len(s); i += 13 {
		b := []byte(s)
		b[i] ^= byte(1 + i%255)
		l, e := tape.Read(string(b))
		if e != api.OK && len(l) != 0 {
			t.Errorf("byte %d: members beside an error", i)
		}
		for _, m := range l {
			if tape.Check(m) != api.OK {
				t.Errorf("byte %d: %v", i, m)
			}
		}
	}
}

// What is handed in isn't changed.
func TestUnchanged(t *testing.T) {
	l := sample()
	tape.Write(l[:3])
	if !slices.Equal(l, sample()) {
		t.Error("the members were changed")
	}
}
