package tree_test

import (
	"fmt"
	"math"
	"math/rand"
	"slices"
	"strings"
	"testing"

	"holdall/api"
	"holdall/inode"
	"holdall/tree"
)

func fresh(t *testing.T, n int) []string {
	t.Helper()
	img, e := tree.Make(n)
	if e != api.OK {
		t.Fatalf("Make of %d: %d", n, e)
	}
	return img
}

// call does a step on sectors.
func call(img []string, s step) ([]string, api.Errno) {
	switch s.call {
	case "write":
		return tree.Write(img, s.Step)
	case "mkdir":
		return tree.Mkdir(img, s.Step)
	case "link":
		return tree.Link(img, s.Step)
	case "hard":
		return tree.Hard(img, s.Path, s.Target)
	case "cut":
		return tree.Cut(img, s.Path)
	case "rmdir":
		return tree.Rmdir(img, s.Path)
	}
	return tree.Rename(img, s.Path, s.Target)
}

func write(where, data string) step {
	return step{"write", api.Step{Path: where, Mode: 0644, Data: data}}
}
func mkdir(where string) step { return step{"mkdir", api.Step{Path: where, Mode: 0755}} }
func link(where, target string) step {
	return step{"link", api.Step{Path: where, Mode: 0777, Target: target}}
}
func hard(where, to string) step   { return step{"hard", api.Step{Path: where, Target: to}} }
func cut(where string) step        { return step{"cut", api.Step{Path: where}} }
func rmdir(where string) step      { return step{"rmdir", api.Step{Path: where}} }
func rename(where, to string) step { return step{"rename", api.Step{Path: where, Target: to}} }

// all does steps that have no error.
func all(t *testing.T, img []string, l ...step) []string {
	t.Helper()
	for _, s := range l {
		next, e := call(img, s)
		if e != api.OK {
			t.Fatalf("%s of %s: %d", s.call, s.Path, e)
		}
		img = next
	}
	return img
}

// sample has things of all kinds.
func sample(t *testing.T) []string {
	t.Helper()
	return all(t, fresh(t, 64), mkdir("a"), write("a/f", "hi"), link("a/l", "../x"), mkdir("a/d"), write("g", strings.Repeat("x", 600)), hard("g", "a/h"))
}

// P18.1
func TestMake(t *testing.T) {
	for _, n := range []int{16, 17, 64, 1536, 2048} {
		img := fresh(t, n)
		if !slices.Equal(img, newModel(n).image()) || !tree.Right(img) {
			t.Errorf("%d sectors", n)
		}
		if l, e := tree.List(img); len(l) != 0 || e != api.OK {
			t.Errorf("%v, %d", l, e)
		}
	}
	for _, n := range []int{15, 2049, 0, -1, math.MaxInt, math.MinInt} {
		if img, e := tree.Make(n); e != api.ErrArg || len(img) != 0 {
			t.Errorf("%d sectors: %d", n, e)
		}
	}
}

// turn is the sectors with another node in a place.
func turn(t *testing.T, img []string, node int, f func(x *api.Node)) []string {
	t.Helper()
	x, e := inode.Read(img[node])
	if e != api.OK {
		t.Fatalf("node %d: %d", node, e)
	}
	f(&x)
	s, e := inode.Bytes(x)
	if e != api.OK {
		t.Fatalf("node %d turned: %d", node, e)
	}
	img = slices.Clone(img)
	img[node] = s
	return img
}

// dirOf is the sectors with other bytes of a directory that has a block.
func dirOf(t *testing.T, img []string, node int, data string) []string {
	t.Helper()
	at := 0
	img = turn(t, img, node, func(x *api.Node) { x.Size, at = len(data), x.Blocks[0] })
	img[at] = data + strings.Repeat("\x00", 256-len(data))
	return img
}

func place(name string, node int) string {
	return string([]byte{0, 0, byte(node >> 8), byte(node), byte(len(name))}) + name
}

// broken are sectors that may not be.
func broken(t *testing.T) map[string][]string {
	img := sample(t)
	small := all(t, fresh(t, 64), write("a", "hi"))
	linked := all(t, fresh(t, 64), link("l", "x"))
	dir := all(t, fresh(t, 64), mkdir("d"), write("d/f", "x"), mkdir("e"))
	set := func(img []string, at int, s string) []string {
		img = slices.Clone(img)
		img[at] = s
		return img
	}
	first := func(img []string, node int) int {
		x, _ := inode.Read(img[node])
		return x.Blocks[0]
	}
	blank := strings.Repeat("\x00", 256)
	return map[string][]string{
		"none": nil, "15": fresh(t, 16)[:15], "2049": append(fresh(t, 2048), blank), "a short sector": set(img, 63, "x"), "a long one": set(img, 20, img[20]+"x"), "a short node": set(img, 15, ""),
		"no node": set(img, 15, "\x04"+blank[1:]), "a root that is free": set(fresh(t, 64), 0, blank), "a root that is a file": turn(t, fresh(t, 64), 0, func(x *api.Node) { x.Kind = api.KindFile }), "a root twice": turn(t, img, 0, func(x *api.Node) { x.Links = 2 }),
		"a block among the nodes": turn(t, small, 1, func(x *api.Node) { x.Blocks[0] = 15 }), "a block beyond": turn(t, small, 1, func(x *api.Node) { x.Blocks[0] = 64 }), "a block of another": turn(t, small, 1, func(x *api.Node) { x.Blocks[0] = first(small, 0) }), "a block twice": turn(t, img, 5, func(x *api.Node) { x.Blocks[1] = x.Blocks[0] }),
		"a node that nobody names": turn(t, small, 2, func(x *api.Node) { x.Kind, x.Links = api.KindFile, 1 }), "a block of a node that nobody names": turn(t, small, 2, func(x *api.Node) { x.Kind, x.Links, x.Size, x.Blocks = api.KindFile, 1, 1, []int{40} }), "links too many": turn(t, small, 1, func(x *api.Node) { x.Links = 2 }), "links too few": turn(t, img, 5, func(x *api.Node) { x.Links = 1 }), "a directory's links": turn(t, dir, 1, func(x *api.Node) { x.Links = 2 }),
		"names that are none": dirOf(t, small, 0, "\x00\x00\x00\x01\x02a"), "names that don't rise": dirOf(t, all(t, small, hard("a", "b")), 0, place("b", 1)+place("a", 1)), "no part": dirOf(t, small, 0, place("..", 1)), "a /": dirOf(t, small, 0, place("a/b", 1)), "bytes that are no rune": dirOf(t, small, 0, place("\xff", 1)), "65 bytes": dirOf(t, small, 0, place(strings.Repeat("a", 65), 1)),
		"the root again": dirOf(t, small, 0, place("a", 1)+place("b", 0)), "a free node": dirOf(t, small, 0, place("a", 1)+place("b", 2)), "no node of the table": dirOf(t, small, 0, place("a", 1)+place("b", 16)), "a node far beyond": dirOf(t, small, 0, place("a", 1)+"\xff\xff\xff\xff\x01b"),
		"a directory twice": turn(t, dirOf(t, dir, 0, place("d", 1)+place("e", 3)+place("f", 1)), 1, func(x *api.Node) { x.Links = 2 }), "a circle": turn(t, dirOf(t, dir, 1, place("f", 2)+place("g", 1)), 1, func(x *api.Node) { x.Links = 2 }), "a circle apart": dirOf(t, dirOf(t, dir, 0, place("e", 3)), 1, place("d", 1)),
		"bytes that are no names, and no nodes": turn(t, fresh(t, 64), 0, func(x *api.Node) { x.Size, x.Blocks = 5, []int{20} }), "an empty directory twice": turn(t, dirOf(t, dir, 0, place("d", 1)+place("e", 3)+place("f", 3)), 3, func(x *api.Node) { x.Links = 2 }), "no part, but named well ahead": dirOf(t, small, 0, place("a", 1)+place("b/c", 1)), "no part behind a good one": turn(t, dirOf(t, small, 0, place("a", 1)+place("b\x7f", 1)), 1, func(x *api.Node) { x.Links = 2 }),
		"a target that is none": dirOf(t, linked, 1, "a b"), "no target": turn(t, linked, 1, func(x *api.Node) { x.Size, x.Blocks = 0, nil }), "a long target": dirOf(t, linked, 1, strings.Repeat("t", 201)),
	}
}

// P18.1: sectors that may not be: ErrBroken, behind ErrArg, ahead of the path's error; and they are told as they were.
func TestBroken(t *testing.T) {
	for name, img := range broken(t) {
		if tree.Right(img) {
			t.Errorf("%s: they may be", name)
		}
		if n, e := tree.Find(img, "/"); n != 0 || e != api.ErrBroken {
			t.Errorf("%s, Find: %d", name, e)
		}
		if s, e := tree.Stat(img, "a"); s != (api.Stat{}) || e != api.ErrBroken {
			t.Errorf("%s, Stat: %d", name, e)
		}
		if l, e := tree.List(img); len(l) != 0 || e != api.ErrBroken {
			t.Errorf("%s, List: %d", name, e)
		}
		for _, s := range []step{write("/", ""), mkdir("a"), link("..", ""), hard("/", "a"), cut(""), rmdir("x/"), rename("a", "")} {
			if got, e := call(img, s); e != api.ErrBroken || !slices.Equal(got, img) {
				t.Errorf("%s, %s: %d", name, s.call, e)
			}
		}
		for _, f := range wrongSteps() {
			for _, s := range []step{write("/", ""), mkdir("a"), link("..", "")} {
				f(&s.Step)
				if got, e := call(img, s); e != api.ErrArg || !slices.Equal(got, img) {
					t.Errorf("%s, wrong %s: %d", name, s.call, e)
				}
			}
		}
	}
}

// wrongSteps set what may not be a node's.
func wrongSteps() []func(s *api.Step) {
	return []func(s *api.Step){
		func(s *api.Step) { s.Mode = -1 }, func(s *api.Step) { s.Mode = 010000 }, func(s *api.Step) { s.Uid = -1 }, func(s *api.Step) { s.Uid = 1 << 32 },
		func(s *api.Step) { s.Gid = -1 }, func(s *api.Step) { s.Gid = 1 << 32 }, func(s *api.Step) { s.Time = -1 }, func(s *api.Step) { s.Time = math.MinInt },
	}
}

// P18.1: sectors that may be, though no call makes them so.
func TestRightRaw(t *testing.T) {
	img := sample(t)
	for name, got := range map[string][]string{
		"bytes in a sector that is nobody's": append(slices.Clone(img[:63]), strings.Repeat("x", 256)),
		"bytes behind a file's end":          func() []string { l := slices.Clone(img); l[16] = l[16][:255] + "x"; return l }(),
		"a block far behind":                 turn(t, all(t, fresh(t, 64), write("a", "hi")), 1, func(x *api.Node) { x.Blocks[0] = 63 }),
		"the least":                          fresh(t, 16),
	} {
		if !tree.Right(got) {
			t.Errorf("%s: they may not be", name)
		}
	}
	// 16 parts and 200 bytes may be; more may not, even where each directory by itself may.
	deep := fresh(t, 200)
	where := ""
	for i := 0; i < 15; i++ {
		where += "d/"
		deep = all(t, deep, mkdir(where[:len(where)-1]))
	}
	deep = all(t, deep, write(where+"f", ""), mkdir(where+"g"))
	last, _ := tree.Find(deep, where+"g")
	file, _ := tree.Find(deep, where+"f")
	at := len(deep) - 1
	under := turn(t, deep, last, func(x *api.Node) { x.Size, x.Blocks = 6, []int{at} })
	under[at] = place("h", file) + strings.Repeat("\x00", 250)
	under = turn(t, under, file, func(x *api.Node) { x.Links = 2 })
	if !tree.Right(deep) || tree.Right(under) {
		t.Error("17 parts")
	}
	part := strings.Repeat("p", 49) + "/"
	long := all(t, fresh(t, 200), mkdir(part[:49]), mkdir((part + part)[:99]), mkdir((part + part + part)[:149]), write(part+part+part+strings.Repeat("q", 50), ""))
	third, _ := tree.Find(long, (part + part + part)[:149])
	one := place(strings.Repeat("q", 50), third+1)
	two := place(strings.Repeat("q", 51), third+1)
	if !tree.Right(dirOf(t, long, third, one)) || tree.Right(dirOf(t, long, third, two)) {
		t.Error("201 bytes")
	}
}

// P18.2, P18.3: the errors of paths, in their order.
func TestPathErrors(t *testing.T) {
	img := sample(t)
	long := strings.Repeat("a", 201)
	for where, want := range map[string]api.Errno{
		"": api.ErrPath, "/": api.ErrPath, "/a": api.ErrPath, "a/": api.ErrPath, "a/../a": api.ErrPath, long: api.ErrLong, strings.Repeat("a/", 16) + "a": api.ErrLong,
		"c": api.ErrNone, "a/c": api.ErrNone, "c/d": api.ErrNone, "a/f/c": api.ErrPath, "a/f/c/d": api.ErrPath, "a/l/c": api.ErrPath, "g/x": api.ErrPath, "a/d/x/y": api.ErrNone, "A": api.ErrNone, "a/ff": api.ErrNone,
	} {
		if n, e := tree.Find(img, where); n != 0 || e != want {
			t.Errorf("Find %.20q: %d, want %d", where, e, want)
		}
		if s, e := tree.Stat(img, where); s != (api.Stat{}) || e != want {
			t.Errorf("Stat %.20q: %d, want %d", where, e, want)
		}
		for _, s := range []step{cut(where), rmdir(where), hard(where, "new"), rename(where, "new"), hard(where, "g"), rename(where, "x/y")} {
			if got, e := call(img, s); e != want || !slices.Equal(got, img) {
				t.Errorf("%s %.20q: %d, want %d", s.call, where, e, want)
			}
		}
	}
	for where, want := range map[string]api.Errno{"": api.ErrPath, "/x": api.ErrPath, "x/": api.ErrPath, long: api.ErrLong, "c/d": api.ErrNone, "a/c/d": api.ErrNone, "a/f/c": api.ErrPath, "a/l/c": api.ErrPath, "a/f/c/d": api.ErrPath} {
		for _, s := range []step{write(where, "x"), mkdir(where), link(where, ""), hard("a/f", where), rename("a/f", where), hard("a", where), rename("a", where)} {
			if got, e := call(img, s); e != want || !slices.Equal(got, img) {
				t.Errorf("%s %.20q: %d, want %d", s.call, where, e, want)
			}
		}
	}
}

// P18.2: the other errors.
func TestErrors(t *testing.T) {
	img := sample(t)
	for i, c := range []struct {
		s step
		e api.Errno
	}{
		{write("a", "x"), api.ErrKind}, {write("a/l", "x"), api.ErrKind}, {write("a/f", strings.Repeat("x", 14593)), api.ErrLong}, {write("n", strings.Repeat("x", 14593)), api.ErrLong}, {write("a", strings.Repeat("x", 14593)), api.ErrKind},
		{mkdir("a"), api.ErrExists}, {mkdir("a/f"), api.ErrExists}, {mkdir("a/l"), api.ErrExists},
		{link("a/f", "x"), api.ErrExists}, {link("a", "x"), api.ErrExists}, {link("a/f", ""), api.ErrPath}, {link("n", ""), api.ErrPath}, {link("n", "a b"), api.ErrPath}, {link("n", strings.Repeat("t", 201)), api.ErrPath},
		{hard("a", "n"), api.ErrKind}, {hard("a/l", "n"), api.ErrKind}, {hard("a", "g"), api.ErrKind}, {hard("g", "a"), api.ErrExists}, {hard("g", "g"), api.ErrExists}, {hard("g", "a/h"), api.ErrExists},
		{cut("a"), api.ErrKind}, {cut("a/d"), api.ErrKind}, {rmdir("g"), api.ErrKind}, {rmdir("a/l"), api.ErrKind}, {rmdir("a"), api.ErrEmpty},
		{rename("a", "n"), api.ErrKind}, {rename("a/d", "g"), api.ErrKind}, {rename("g", "a"), api.ErrExists}, {rename("g", "g"), api.ErrExists}, {rename("a/l", "g"), api.ErrExists},
	} {
		if got, e := call(img, c.s); e != c.e || !slices.Equal(got, img) {
			t.Errorf("%d, %s %s: %d, want %d", i, c.s.call, c.s.Path, e, c.e)
		}
	}
}

// P18.2: the chapter's examples, and hard ones.
func TestExamples(t *testing.T) {
	img := all(t, fresh(t, 64), mkdir("a"), write("a/b", "x"))
	if l, e := tree.List(img); e != api.OK || len(l) != 2 || l[0].Path != "a" || l[1].Path != "a/b" {
		t.Errorf("%v, %d", l, e)
	}
	if _, e := tree.Rmdir(img, "a"); e != api.ErrEmpty {
		t.Errorf("Rmdir: %d", e)
	}
	if _, e := tree.Stat(img, "a/b/c"); e != api.ErrPath {
		t.Errorf("Stat of a/b/c: %d", e)
	}
	if _, e := tree.Stat(img, "c"); e != api.ErrNone {
		t.Errorf("Stat of c: %d", e)
	}
	img = all(t, img, hard("a/b", "h"), step{"write", api.Step{Path: "h", Mode: 0600, Uid: 1, Gid: 2, Time: 3, Data: "new"}})
	for _, where := range []string{"a/b", "h"} {
		if s, e := tree.Stat(img, where); e != api.OK || s != (api.Stat{Path: where, Kind: 1, Mode: 0600, Uid: 1, Gid: 2, Time: 3, Links: 2, Data: "new"}) {
			t.Errorf("%v, %d", s, e)
		}
	}
	one, _ := tree.Find(img, "a/b")
	two, _ := tree.Find(img, "h")
	if one != two || one != 2 {
		t.Errorf("nodes %d and %d", one, two)
	}
	img = all(t, img, cut("a/b"))
	if s, e := tree.Stat(img, "h"); e != api.OK || s.Links != 1 || s.Data != "new" {
		t.Errorf("%v, %d", s, e)
	}
}

// random is a step on few paths, most of them sensible.
func random(r *rand.Rand) step {
	paths := []string{"a", "b", "c", "a/a", "a/b", "a/c", "b/a", "b/b", "a/a/a", "a/a/b", "b/a/a", "aé", "a.b", "longer-name-than-others", "a/../b", ""}
	p := func() string {
		n := len(paths)
		if r.Intn(10) > 0 {
			n -= 2
		}
		return paths[r.Intn(n)]
	}
	s := api.Step{Path: p(), Target: paths[r.Intn(len(paths)-2)], Mode: r.Intn(010000), Uid: r.Intn(1 << 32), Gid: r.Intn(1 << 32), Time: r.Int()}
	if r.Intn(40) == 0 {
		l := wrongSteps()
		l[r.Intn(len(l))](&s)
	}
	s.Data = strings.Repeat(string([]byte{byte(r.Intn(256))}), []int{0, 1, 255, 256, 257, 700, 2000, 14592, 14593}[r.Intn(9)])
	return step{[]string{"write", "write", "mkdir", "mkdir", "link", "hard", "cut", "rmdir", "rename", "rename"}[r.Intn(10)], s}
}

// P18.2, P18.3, P18.4: many steps, held against the model sector by sector.
func TestModel(t *testing.T) {
	r := rand.New(rand.NewSource(18))
	for _, size := range []int{16, 20, 40, 64, 150} {
		img, m := fresh(t, size), newModel(size)
		seen := map[api.Errno]int{}
		for i := 0; i < 4000; i++ {
			s := random(r)
			next := m.copy()
			want := next.do(s)
			was := slices.Clone(img)
			got, e := call(img, s)
			if e != want {
				t.Fatalf("%d sectors, step %d, %s %q %q: %d, want %d", size, i, s.call, s.Path, s.Target, e, want)
			}
			if !slices.Equal(img, was) {
				t.Fatal("what was handed in was changed")
			}
			if e == api.OK {
				m = next
			}
			if !slices.Equal(got, m.image()) {
				t.Fatalf("%d sectors, step %d, %s %q %q: other sectors", size, i, s.call, s.Path, s.Target)
			}
			img = got
			seen[e]++
			if l, e := tree.List(img); e != api.OK || !slices.Equal(l, m.list(0, "")) {
				t.Fatalf("%d sectors, step %d: %v, %d", size, i, l, e)
			}
			n, fe := m.find(s.Path)
			if got, e := tree.Find(img, s.Path); got != n || e != fe {
				t.Fatalf("Find %q: %d, %d, want %d, %d", s.Path, got, e, n, fe)
			}
			if fe == api.OK {
				stat := m.things[n].Stat
				stat.Path = s.Path
				if got, e := tree.Stat(img, s.Path); got != stat || e != api.OK {
					t.Fatalf("Stat %q: %v, %d", s.Path, got, e)
				}
			}
		}
		for _, e := range []api.Errno{api.OK, api.ErrSpace, api.ErrLong, api.ErrKind, api.ErrExists, api.ErrEmpty, api.ErrNone, api.ErrPath, api.ErrArg} {
			if seen[e] == 0 {
				t.Errorf("%d sectors: error %d was never met", size, e)
			}
		}
	}
}

// P18.2: nodes and sectors run out.
func TestSpace(t *testing.T) {
	img := fresh(t, 16)
	img = all(t, img, write("a", ""), write("b", ""), write("c", ""))
	if got, e := tree.Mkdir(img, api.Step{Path: "d"}); e != api.ErrSpace || !slices.Equal(got, img) {
		t.Errorf("no node is free: %d", e)
	}
	if got, e := tree.Write(img, api.Step{Path: "d", Data: strings.Repeat("x", 14593)}); e != api.ErrSpace || !slices.Equal(got, img) {
		t.Errorf("no node is free, nor may it be so long: %d", e)
	}
	// Twelve sectors are behind the nodes, one of them is the root's.
	img = all(t, img, write("a", strings.Repeat("x", 11*256)))
	if got, e := tree.Write(img, api.Step{Path: "b", Data: "x"}); e != api.ErrSpace || !slices.Equal(got, img) {
		t.Errorf("no sector is free: %d", e)
	}
	if got, e := tree.Write(img, api.Step{Path: "a", Data: strings.Repeat("x", 11*256+1)}); e != api.ErrSpace || !slices.Equal(got, img) {
		t.Errorf("a sector too many: %d", e)
	}
	// A file that is written with fewer bytes finds room, with as many too.
	img = all(t, img, write("a", strings.Repeat("y", 11*256)), write("a", strings.Repeat("z", 9*256)), write("b", strings.Repeat("x", 2*256)), cut("a"), cut("b"))
	if !slices.Equal(img[5:], fresh(t, 16)[5:]) {
		t.Error("what went left bytes")
	}
	// A name needs room in its directory: with all sectors taken a file without bytes finds none.
	full := all(t, fresh(t, 16), mkdir("d"), write("a", strings.Repeat("x", 11*256)))
	if got, e := tree.Write(full, api.Step{Path: "d/b"}); e != api.ErrSpace || !slices.Equal(got, full) {
		t.Errorf("a directory without room: %d", e)
	}
	if got, e := tree.Hard(full, "a", "d/b"); e != api.ErrSpace || !slices.Equal(got, full) {
		t.Errorf("Hard: %d", e)
	}
	if got, e := tree.Rename(full, "a", "d/b"); e != api.ErrSpace || !slices.Equal(got, full) {
		t.Errorf("Rename: %d", e)
	}
}

// P18.2: a directory's bytes are at most MaxFile.
func TestLongDirectory(t *testing.T) {
	img := all(t, fresh(t, 400), mkdir("d"), write("f", "x"))
	n := 0
	for ; n < 300; n++ {
		next, e := tree.Hard(img, "f", fmt.Sprintf("d/%03d", n)+strings.Repeat("n", 61))
		if e != api.OK {
			if e != api.ErrLong || !slices.Equal(next, img) {
				t.Errorf("name %d: %d", n, e)
			}
			break
		}
		img = next
	}
	if n != 14592/69 {
		t.Errorf("%d names", n)
	}
	if got, e := tree.Write(img, api.Step{Path: "d/more-than-sixty-bytes-of-a-name-that-no-directory-has-room-for"}); e != api.ErrLong || !slices.Equal(got, img) {
		t.Errorf("a new file: %d", e)
	}
	if got, e := tree.Write(img, api.Step{Path: "d/s"}); e != api.OK || !tree.Right(got) {
		t.Errorf("a short name: %d", e)
	}
}

// P18.4: what was made is taken away, and all stands as it stood.
func TestBack(t *testing.T) {
	img := sample(t)
	got := all(t, img, mkdir("n"), write("n/f", "bytes"), link("n/l", "t"), cut("n/f"), cut("n/l"), rmdir("n"))
	if !slices.Equal(got, img) {
		t.Error("something is left")
	}
	got = all(t, img, hard("g", "n"), cut("n"), rename("a/f", "n"), rename("n", "a/f"))
	was, _ := tree.List(img)
	is, _ := tree.List(got)
	if !slices.Equal(is, was) {
		t.Errorf("%v, want %v", is, was)
	}
}

// P18.3: each directory's names, rising; behind each what stands in it.
func TestListOrder(t *testing.T) {
	img := all(t, fresh(t, 64), mkdir("b"), mkdir("a"), write("a.x", ""), write("a/z", ""), mkdir("a/b"), write("a/b/c", "x"), write("B", ""), link("b/l", "/"))
	var got []string
	l, _ := tree.List(img)
	for _, s := range l {
		got = append(got, s.Path)
	}
	if strings.Join(got, " ") != "B a a/b a/b/c a/z a.x b b/l" {
		t.Errorf("%q", got)
	}
	if s, _ := tree.Stat(img, "a"); s.Data != "" || s.Kind != api.KindDir || s.Links != 1 {
		t.Errorf("%v", s)
	}
	if s, _ := tree.Stat(img, "b/l"); s.Data != "/" || s.Kind != api.KindLink || s.Mode != 0777 {
		t.Errorf("%v", s)
	}
}
