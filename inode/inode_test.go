package inode_test

import (
	"encoding/binary"
	"math"
	"math/rand"
	"reflect"
	"slices"
	"strings"
	"testing"

	"holdall/api"
	"holdall/inode"
)

func blocks(n, from int) []int {
	var l []int
	for i := 0; i < n; i++ {
		l = append(l, from+i)
	}
	return l
}

// sector is the chapter's sector of a node.
func sector(x api.Node) string {
	b := []byte{byte(x.Kind)}
	b = binary.BigEndian.AppendUint16(b, uint16(x.Mode))
	b = binary.BigEndian.AppendUint32(b, uint32(x.Links))
	b = binary.BigEndian.AppendUint32(b, uint32(x.Uid))
	b = binary.BigEndian.AppendUint32(b, uint32(x.Gid))
	b = binary.BigEndian.AppendUint64(b, uint64(x.Time))
	b = binary.BigEndian.AppendUint32(b, uint32(x.Size))
	b = append(b, 0)
	for _, at := range x.Blocks {
		b = binary.BigEndian.AppendUint32(b, uint32(at))
	}
	return string(b) + strings.Repeat("\x00", 256-len(b))
}

func same(a, b api.Node) bool {
	return slices.Equal(a.Blocks, b.Blocks) && a.Kind == b.Kind && a.Mode == b.Mode && a.Uid == b.Uid && a.Gid == b.Gid && a.Time == b.Time && a.Links == b.Links && a.Size == b.Size
}

// right are nodes that may be.
func right() []api.Node {
	return []api.Node{
		{}, {Kind: 1, Links: 1}, {Kind: 2, Mode: 0755, Links: 1}, {Kind: 3, Mode: 07777, Links: 2048, Size: 1, Blocks: []int{0}},
		{Kind: 1, Mode: 0644, Links: 3, Size: 3, Blocks: []int{9}}, {Kind: 1, Links: 1, Gid: math.MaxUint32}, {Kind: 1, Mode: 1, Uid: math.MaxUint32, Gid: 1 << 31, Time: math.MaxInt, Links: 256, Size: 256, Blocks: []int{2047}},
		{Kind: 2, Links: 1, Size: 257, Blocks: []int{300, 5}}, {Kind: 1, Uid: 1, Gid: 2, Time: 3, Links: 4, Size: 14592, Blocks: blocks(57, 1000)}, {Kind: 1, Links: 1, Size: 14337, Blocks: blocks(57, 7)}, {Kind: 1, Links: 1, Size: 14336, Blocks: blocks(56, 7)}, {Kind: 1, Links: 1, Size: 512, Blocks: []int{4, 4}},
	}
}

// P17.1
func TestRight(t *testing.T) {
	for i, x := range right() {
		if !inode.Check(x) {
			t.Errorf("%d may not be", i)
		}
		if s, e := inode.Bytes(x); s != sector(x) || e != api.OK {
			t.Errorf("%d: %q, %d", i, s, e)
		}
		if got, e := inode.Read(sector(x)); !same(got, x) || e != api.OK {
			t.Errorf("%d: %v, %d", i, got, e)
		}
	}
	s := sector(api.Node{Kind: 1, Links: 1, Size: 3, Blocks: []int{9}})
	if got, _ := inode.Bytes(api.Node{Kind: 1, Links: 1, Size: 3, Blocks: []int{9}}); got != s || got[0] != 1 || got[31] != 9 || len(got) != 256 {
		t.Error("the example")
	}
}

// P17.1
func TestWrong(t *testing.T) {
	good := api.Node{Kind: 1, Mode: 0644, Links: 1, Size: 300, Blocks: []int{8, 9}}
	for i, f := range []func(x *api.Node){
		func(x *api.Node) { x.Kind = 0 }, func(x *api.Node) { x.Kind = 4 }, func(x *api.Node) { x.Kind = 5 }, func(x *api.Node) { x.Kind = -1 }, func(x *api.Node) { x.Kind = 257 },
		func(x *api.Node) { x.Mode = -1 }, func(x *api.Node) { x.Mode = 010000 }, func(x *api.Node) { x.Mode = 1<<16 + 1 },
		func(x *api.Node) { x.Uid = -1 }, func(x *api.Node) { x.Uid = 1 << 32 }, func(x *api.Node) { x.Gid = -1 }, func(x *api.Node) { x.Gid = 1 << 32 }, func(x *api.Node) { x.Time = -1 }, func(x *api.Node) { x.Time = math.MinInt },
		func(x *api.Node) { x.Links = 0 }, func(x *api.Node) { x.Links = -1 }, func(x *api.Node) { x.Links = 2049 },
		func(x *api.Node) { x.Size = 256 }, func(x *api.Node) { x.Size = 513 }, func(x *api.Node) { x.Size = 0 }, func(x *api.Node) { x.Size = -1 }, func(x *api.Node) { x.Size = math.MaxInt }, func(x *api.Node) { x.Size = math.MinInt },
		func(x *api.Node) { x.Size, x.Blocks = 14593, blocks(58, 9) }, func(x *api.Node) { x.Size, x.Blocks = -1, nil },
		func(x *api.Node) { x.Blocks = nil }, func(x *api.Node) { x.Blocks = []int{8} }, func(x *api.Node) { x.Blocks = []int{8, 9, 10} }, func(x *api.Node) { x.Blocks = []int{8, 2048} }, func(x *api.Node) { x.Blocks = []int{-1, 8} }, func(x *api.Node) { x.Blocks = []int{8, math.MaxInt} },
		func(x *api.Node) { *x = api.Node{Mode: 1} }, func(x *api.Node) { *x = api.Node{Uid: 1} }, func(x *api.Node) { *x = api.Node{Gid: 1} }, func(x *api.Node) { *x = api.Node{Time: 1} }, func(x *api.Node) { *x = api.Node{Links: 1} }, func(x *api.Node) { *x = api.Node{Size: 1, Blocks: []int{1}} }, func(x *api.Node) { *x = api.Node{Blocks: []int{1}} }, func(x *api.Node) { *x = api.Node{Size: -1} },
	} {
		x := good
		f(&x)
		if inode.Check(x) {
			t.Errorf("%d may be: %v", i, x)
		}
		if s, e := inode.Bytes(x); s != "" || e != api.ErrArg {
			t.Errorf("%d: %d bytes, %d", i, len(s), e)
		}
	}
	free := api.Node{Blocks: []int{}}
	if s, e := inode.Bytes(free); !inode.Check(free) || s != strings.Repeat("\x00", 256) || e != api.OK {
		t.Error("a free node with an empty list")
	}
}

// set is a sector with other bytes from a place on.
func set(s string, at int, what string) string { return s[:at] + what + s[at+len(what):] }

// P17.1: sectors of no node.
func TestReadWrong(t *testing.T) {
	zero := strings.Repeat("\x00", 256)
	s := sector(api.Node{Kind: 1, Mode: 0644, Uid: 1, Gid: 1, Time: 1, Links: 1, Size: 300, Blocks: []int{8, 9}})
	for name, in := range map[string]string{
		"nothing": "", "a byte less": s[1:], "a byte more": s + "\x00", "255": zero[1:],
		"kind 4": set(s, 0, "\x04"), "kind 255": set(s, 0, "\xff"), "kind 0": set(s, 0, "\x00"), "a free one's last byte": set(zero, 255, "\x01"), "a free one's mode": set(zero, 2, "\x01"), "a free one's links": set(zero, 6, "\x01"), "a free one's block": set(zero, 31, "\x01"),
		"mode": set(s, 1, "\x10\x00"), "links 0": set(s, 3, "\x00\x00\x00\x00"), "links 2049": set(s, 3, "\x00\x00\x08\x01"), "links": set(s, 3, "\xff\xff\xff\xff"), "time": set(s, 15, "\x80"), "time all": set(s, 15, strings.Repeat("\xff", 8)),
		"size 256": set(s, 23, "\x00\x00\x01\x00"), "size 513": set(s, 23, "\x00\x00\x02\x01\x00"), "size above": set(s, 23, "\x00\x00\x39\x01"), "size all": set(s, 23, "\xff\xff\xff\xff"), "the byte 0": set(s, 27, "\x01"), "block 2048": set(s, 28, "\x00\x00\x08\x00"), "block all": set(s, 32, "\xff\xff\xff\xff"), "behind the blocks": set(s, 36, "\x01"), "the last byte": set(s, 255, "\x01"),
	} {
		got, e := inode.Read(in)
		if name == "size 513" {
			// A third sector, 0, is one that may be.
			if e != api.OK || got.Size != 513 || !slices.Equal(got.Blocks, []int{8, 9, 0}) {
				t.Errorf("%s: %v, %d", name, got, e)
			}
			continue
		}
		if e != api.ErrForm || !reflect.DeepEqual(got, api.Node{}) {
			t.Errorf("%s: %v, %d", name, got, e)
		}
	}
	if got, e := inode.Read(zero); e != api.OK || !same(got, api.Node{}) {
		t.Errorf("a free node: %v, %d", got, e)
	}
}

// P17.1: what is read is written as it was.
func TestReadBack(t *testing.T) {
	r := rand.New(rand.NewSource(17))
	read := 0
	for i := 0; i < 20000; i++ {
		l := right()
		b := []byte(sector(l[r.Intn(len(l))]))
		for n := r.Intn(3); n >= 0; n-- {
			b[r.Intn(40)] = byte(r.Intn(9))
		}
		x, e := inode.Read(string(b))
		if e != api.OK {
			continue
		}
		read++
		if s, e := inode.Bytes(x); e != api.OK || s != string(b) || !inode.Check(x) {
			t.Fatalf("%q was read as %v", b, x)
		}
	}
	if read < 1000 {
		t.Errorf("only %d were read", read)
	}
}

// P17.3
func TestSizes(t *testing.T) {
	for n, want := range map[int]int{math.MinInt: 0, -1: 0, 0: 0, 1: 1, 255: 1, 256: 1, 257: 2, 512: 2, 513: 3, 14592: 57, 14593: 58, math.MaxInt: 1 << 55, math.MaxInt - 254: 1 << 55, math.MaxInt - 255: 1<<55 - 1} {
		if got := inode.Sectors(n); got != want {
			t.Errorf("%d bytes: %d", n, got)
		}
	}
	for n, want := range map[int]int{0: 0, 3: 0, 4: 1, 7: 1, 16: 4, 24: 6, 1536: 384, 2048: 512, math.MaxInt: 1<<61 - 1} {
		if got := inode.Nodes(n); got != want {
			t.Errorf("%d sectors: %d", n, got)
		}
	}
}

func place(name string, node int) api.Place { return api.Place{Name: name, Node: node} }

// P17.2: names and bytes, there and back.
func TestNames(t *testing.T) {
	long := strings.Repeat("n", 255)
	for _, c := range []struct {
		l []api.Place
		s string
	}{
		{nil, ""}, {[]api.Place{place("a", 1)}, "\x00\x00\x00\x01\x01a"}, {[]api.Place{place("a", 0), place("ab", 258), place("b", math.MaxUint32)}, "\x00\x00\x00\x00\x01a\x00\x00\x01\x02\x02ab\xff\xff\xff\xff\x01b"},
		{[]api.Place{place("\x00", 1), place("B", 1), place("a", 1), place(long, 7), place("\xff", 2)}, "\x00\x00\x00\x01\x01\x00\x00\x00\x00\x01\x01B\x00\x00\x00\x01\x01a\x00\x00\x00\x07\xff" + long + "\x00\x00\x00\x02\x01\xff"}, {[]api.Place{place("a/b", 1), place("a b", 1)}[1:], "\x00\x00\x00\x01\x03a b"},
	} {
		if got := inode.List(c.l); got != c.s {
			t.Errorf("%v: %q", c.l, got)
		}
		if got, ok := inode.Names(c.s); !ok || !slices.Equal(got, c.l) {
			t.Errorf("%q: %v, %v", c.s, got, ok)
		}
	}
}

// P17.2: bytes of no names.
func TestNamesWrong(t *testing.T) {
	a, b := "\x00\x00\x00\x01\x01a", "\x00\x00\x00\x02\x01b"
	for _, s := range []string{"\x00", "\x00\x00\x00\x01", "\x00\x00\x00\x01\x01", "\x00\x00\x00\x01\x00", "\x00\x00\x00\x01\x00" + b, "\x00\x00\x00\x01\x02a", a[:5], a + "x", a + b[:5], a + "\x00\x00\x00\x02\xffb", b + a, a + a, a + "\x00\x00\x00\x09\x01a", a + "\x00\x00\x00\x02\x00", "\x00\x00\x00\x01\x02ab" + b + "\x00\x00\x00\x01\x02aa", b + "\x00\x00\x00\x01\x02ab", strings.Repeat("\x00", 256), "\x00\x00\x00\x01\x01b\x00\x00\x00\x02\x01B"} {
		if got, ok := inode.Names(s); ok || len(got) != 0 {
			t.Errorf("%q: %v, %v", s, got, ok)
		}
	}
}

// P17.2: whatever bytes: what is told rises, and has those bytes.
func TestNamesAny(t *testing.T) {
	r := rand.New(rand.NewSource(18))
	yes := 0
	for i := 0; i < 50000; i++ {
		b := make([]byte, r.Intn(20))
		for j := range b {
			b[j] = byte(r.Intn(3))
		}
		l, ok := inode.Names(string(b))
		if !ok {
			if len(l) != 0 {
				t.Fatal("names beside false")
			}
			continue
		}
		yes++
		if inode.List(l) != string(b) {
			t.Fatalf("%q: %v", b, l)
		}
		for j, p := range l {
			if p.Name == "" || j > 0 && l[j-1].Name >= p.Name {
				t.Fatalf("%q: %v", b, l)
			}
		}
	}
	if yes < 1000 {
		t.Errorf("only %d were names", yes)
	}
}

// What is handed in isn't changed, and an answer is the caller's own.
func TestUnchanged(t *testing.T) {
	x := api.Node{Kind: 1, Links: 1, Size: 3, Blocks: append(make([]int, 0, 60), 9)}
	s, _ := inode.Bytes(x)
	y, _ := inode.Read(s)
	y.Blocks[0] = 10
	z, _ := inode.Read(s)
	if x.Blocks[0] != 9 || x.Blocks[:2][1] != 0 || z.Blocks[0] != 9 {
		t.Error("something was changed")
	}
	l := []api.Place{place("a", 1), place("b", 2)}
	inode.List(l[:1])
	if !slices.Equal(l, []api.Place{place("a", 1), place("b", 2)}) {
		t.Error("the names were changed")
	}
}
