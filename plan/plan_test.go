package plan_test

import (
	"crypto/sha256"
	"fmt"
	"slices"
	"strings"
	"testing"

	"holdall/api"
	"holdall/owner"
	"holdall/plan"
)

func sum(s string) string {
	h := sha256.Sum256([]byte(s))
	return string(h[:])
}

// told is a value with all its fields, lists that hold nothing alike.
func told(x any) string { return fmt.Sprintf("%q", []any{x}) }

// part is an entry, and the member that it says.
type part struct {
	x api.Entry
	m api.Member
}

// Members have owners and times of their own, so that it shows where they go.
func member(where string, kind int) api.Member {
	return api.Member{Path: where, Kind: kind, Mode: 01, Uid: 7, Gid: 8, Time: int(where[0])}
}

func dir(where string) part {
	return part{api.Entry{Kind: api.KindDir, Mode: 0755, Path: where}, member(where, api.KindDir)}
}

func file(where, data string) part {
	m := member(where, api.KindFile)
	m.Data = data
	return part{api.Entry{Kind: api.KindFile, Mode: 0644, Sum: sum(data), Path: where}, m}
}

func conf(where, data string) part {
	p := file(where, data)
	p.x.Kind, p.x.Mode = api.KindConf, 0600
	return p
}

func link(where, target string) part {
	m := member(where, api.KindLink)
	m.Target = "not this one"
	return part{api.Entry{Kind: api.KindLink, Path: where, Target: target}, m}
}

func pack(name, version string, l ...part) (api.Manifest, []api.Member) {
	m := api.Manifest{Name: name, Version: version}
	var members []api.Member
	for _, p := range l {
		m.Entries = append(m.Entries, p.x)
		members = append(members, p.m)
	}
	return m, members
}

func manifest(name, version string, l ...part) api.Manifest {
	m, _ := pack(name, version, l...)
	return m
}

// base is a database of packages; of the directories those are made that are named.
func base(made []string, l ...api.Manifest) api.Base {
	var b api.Base
	for _, m := range l {
		b = owner.Add(b, m, made)
	}
	return b
}

// step is that of a part: its entry's path, mode and target, its member's owners, time and bytes.
func step(kind int, p part) api.Step {
	s := api.Step{Kind: kind, Path: p.x.Path, Mode: p.x.Mode, Uid: 7, Gid: 8, Time: p.m.Time, Data: p.m.Data}
	if p.x.Kind == api.KindLink {
		s.Target = p.x.Target
	}
	return s
}

func mkdir(where string) api.Step       { return step(api.StepMkdir, dir(where)) }
func write(p part) api.Step             { return step(api.StepWrite, p) }
func put(where, target string) api.Step { return step(api.StepLink, link(where, target)) }
func cut(where string) api.Step         { return api.Step{Kind: api.StepCut, Path: where} }
func rmdir(where string) api.Step       { return api.Step{Kind: api.StepRmdir, Path: where} }
func rename(where, to string) api.Step {
	return api.Step{Kind: api.StepRename, Path: where, Target: to}
}
func steps(l ...api.Step) []api.Step { return l }
func isDir(where string) api.Stat    { return api.Stat{Path: where, Kind: api.KindDir} }
func isFile(where, data string) api.Stat {
	return api.Stat{Path: where, Kind: api.KindFile, Data: data}
}
func isLink(where, to string) api.Stat { return api.Stat{Path: where, Kind: api.KindLink, Data: to} }
func tree(l ...api.Stat) []api.Stat    { return l }

// beside is a step elsewhere.
func beside(s api.Step, where string) api.Step {
	s.Path = where
	return s
}

func check(t *testing.T, what string, got, want []api.Step, b, wb api.Base, e, we api.Errno) {
	t.Helper()
	if we != api.OK {
		want, wb = nil, api.Base{}
	}
	if e != we || told(got) != told(want) || told(b) != told(wb) {
		t.Errorf("%s: %d, want %d\n%s\nwant\n%s\n%s\nwant\n%s", what, e, we, told(got), told(want), told(b), told(wb))
	}
	if we == api.OK && !owner.Check(b) {
		t.Errorf("%s: the database behind may not be", what)
	}
}

// P22.1
func TestAt(t *testing.T) {
	l := tree(isDir("a"), isFile("b", "1"), isFile("b", "2"), isFile("", "3"))
	for where, want := range map[string]int{"a": 0, "b": 1, "": 3} {
		if s, ok := plan.At(l, where); !ok || s != l[want] {
			t.Errorf("%q: %v, %v", where, s, ok)
		}
	}
	for _, where := range []string{"c", "a/", "B"} {
		if s, ok := plan.At(l, where); ok || s != (api.Stat{}) {
			t.Errorf("%q: %v, %v", where, s, ok)
		}
	}
	if _, ok := plan.At(nil, "a"); ok {
		t.Error("something stands nowhere")
	}
}

// P22.1 to P22.3: the example.
func TestExample(t *testing.T) {
	m, l := pack("a", "1", dir("x"), link("x/y", "z"))
	got, b, e := plan.Install(api.Base{}, nil, m, l)
	want := api.Base{Packs: []api.Manifest{m}, Dirs: []api.Shared{{Path: "x", Refs: 1, Made: true}}}
	check(t, "install", got, steps(mkdir("x"), put("x/y", "z")), b, want, e, api.OK)
	_, _, e = plan.Install(b, nil, m, l)
	check(t, "again", nil, nil, api.Base{}, api.Base{}, e, api.ErrThere)
	_, _, e = plan.Install(api.Base{}, tree(isFile("x", "")), m, l)
	check(t, "x is a file", nil, nil, api.Base{}, api.Base{}, e, api.ErrOwned)
	got, behind, e := plan.Remove(b, tree(isDir("x"), isLink("x/y", "z")), "a")
	check(t, "remove", got, steps(cut("x/y"), rmdir("x")), behind, api.Base{}, e, api.OK)
}

// P22.1: what comes, of all kinds.
func TestInstall(t *testing.T) {
	other := base([]string{"d"}, manifest("o", "1", dir("d"), dir("e"), file("e/o", "1")))
	for _, c := range []struct {
		what  string
		b     api.Base
		tree  []api.Stat
		parts []part
		want  []api.Step
		made  []string
		e     api.Errno
	}{
		{what: "nothing"},
		{what: "all kinds", parts: []part{file("a", "1"), conf("b", "2"), link("c", "t"), dir("d"), file("d/e", "")}, want: steps(write(file("a", "1")), write(conf("b", "2")), put("c", "t"), mkdir("d"), write(file("d/e", ""))), made: []string{"d"}},
		{what: "a user's directory", tree: tree(isDir("d")), parts: []part{dir("d"), dir("d/e")}, want: steps(mkdir("d/e")), made: []string{"d/e"}},
		{what: "others' directories", b: other, tree: tree(isDir("d"), isDir("e")), parts: []part{dir("d"), file("d/a", "1"), dir("e")}, want: steps(write(file("d/a", "1")))},
		{what: "another's directory that isn't there", b: other, parts: []part{dir("d")}, want: steps(mkdir("d")), made: []string{"d"}},
		{what: "a directory, where a file stands", tree: tree(isFile("d", "")), parts: []part{dir("d")}, e: api.ErrOwned},
		{what: "a directory, where a link stands", tree: tree(isLink("d", "e")), parts: []part{dir("d")}, e: api.ErrOwned},
		{what: "a directory, where another has a file", b: other, tree: tree(isDir("e/o")), parts: []part{dir("e"), dir("e/o")}, e: api.ErrOwned},
		{what: "another's file", b: other, tree: tree(isDir("e"), isFile("e/o", "1")), parts: []part{dir("e"), file("e/o", "1")}, e: api.ErrOwned},
		{what: "another's file that isn't there", b: other, tree: tree(isDir("e")), parts: []part{dir("e"), conf("e/o", "1")}, e: api.ErrOwned},
		{what: "a file, where others have a directory", b: other, tree: tree(isDir("d")), parts: []part{file("d", "")}, e: api.ErrOwned},
		{what: "a link, where others have a directory that isn't there", b: other, parts: []part{link("d", "e")}, e: api.ErrOwned},
		{what: "a user's file", tree: tree(isFile("a", "1")), parts: []part{file("a", "1")}, e: api.ErrOwned},
		{what: "a user's config file", tree: tree(isFile("a", "1")), parts: []part{conf("a", "1")}, e: api.ErrOwned},
		{what: "a user's link", tree: tree(isLink("a", "1")), parts: []part{link("a", "1")}, e: api.ErrOwned},
		{what: "a file, where a user's directory stands", tree: tree(isDir("a")), parts: []part{file("a", "1")}, e: api.ErrOwned},
		{what: "the second one", tree: tree(isDir("b")), parts: []part{file("a", "1"), file("b", "1")}, e: api.ErrOwned},
		{what: "the first that stands there counts", tree: tree(isDir("d"), isFile("d", "")), parts: []part{dir("d")}},
		{what: "beside paths don't count", tree: tree(isDir("a.new"), isDir("a.save")), parts: []part{conf("a", "1")}, want: steps(write(conf("a", "1")))},
	} {
		m, l := pack("n", "1", c.parts...)
		got, b, e := plan.Install(c.b, c.tree, m, l)
		check(t, c.what, got, c.want, b, owner.Add(c.b, m, c.made), e, c.e)
	}
}

// P22.1 to P22.3: errors, and which comes first.
func TestErrors(t *testing.T) {
	wrong := base(nil, manifest("n", "1", dir("d")))
	wrong.Dirs = nil
	m, l := pack("n", "1", file("a", "1"))
	var full api.Base
	for i := 0; i < 32; i++ {
		full = owner.Add(full, manifest(fmt.Sprintf("p%02d", i), "1"), nil)
	}
	taken := tree(isDir("a"))
	mine := base(nil, manifest("n", "1", conf("c", "1")))
	changed := tree(isFile("c", "2"), isDir("c.save"))
	for _, c := range []struct {
		what       string
		b          api.Base
		tree       []api.Stat
		l          []api.Member
		in, up, re api.Errno
	}{
		{"a database that may not be", wrong, taken, l, api.ErrArg, api.ErrArg, api.ErrArg},
		{"it is there", mine, nil, nil, api.ErrThere, api.ErrArg, api.OK},
		{"it isn't there", base(nil, manifest("o", "1")), nil, nil, api.ErrArg, api.ErrMissing, api.ErrMissing},
		{"32 packages", full, taken, nil, api.ErrLong, api.ErrMissing, api.ErrMissing},
		{"32 packages, this one too", base(nil, append(slices.Clone(full.Packs[1:]), manifest("n", "1"))...), nil, l, api.ErrThere, api.OK, api.OK},
		{"31 packages", base(nil, full.Packs[1:]...), nil, l, api.OK, api.ErrMissing, api.ErrMissing},
		{"no members", api.Base{}, taken, nil, api.ErrArg, api.ErrMissing, api.ErrMissing},
		{"members too many", api.Base{}, taken, append(slices.Clone(l), l...), api.ErrArg, api.ErrMissing, api.ErrMissing},
		{"what goes comes first", mine, changed, nil, api.ErrThere, api.ErrKind, api.ErrKind},
	} {
		got, b, e := plan.Install(c.b, c.tree, m, c.l)
		if e != c.in || e != api.OK && told(got)+told(b) != told(steps())+told(api.Base{}) {
			t.Errorf("%s, install: %d, want %d", c.what, e, c.in)
		}
		got, b, e = plan.Upgrade(c.b, c.tree, m, c.l)
		if e != c.up || e != api.OK && told(got)+told(b) != told(steps())+told(api.Base{}) {
			t.Errorf("%s, upgrade: %d, want %d", c.what, e, c.up)
		}
		got, b, e = plan.Remove(c.b, c.tree, "n")
		if e != c.re || e != api.OK && told(got)+told(b) != told(steps())+told(api.Base{}) {
			t.Errorf("%s, remove: %d, want %d", c.what, e, c.re)
		}
	}
}

// P22.2: what becomes of one path, by what old has, what stands there, and what new has.
func TestUpgradePath(t *testing.T) {
	one, two := file("a", "1"), file("a", "2")
	same, other := conf("a", "1"), conf("a", "2")
	l, k := link("a", "1"), link("a", "2")
	d := dir("a")
	type stand = []api.Stat
	none, is1, is2, is3 := stand(nil), tree(isFile("a", "1")), tree(isFile("a", "2")), tree(isFile("a", "3"))
	isL, isD := tree(isLink("a", "1")), tree(isDir("a"))
	for i, c := range []struct {
		old, next []part
		tree      []api.Stat
		want      []api.Step
		e         api.Errno
	}{
		// Files and links.
		{[]part{one}, []part{two}, is1, steps(write(two)), 0}, {[]part{one}, []part{two}, is3, steps(write(two)), 0}, {[]part{one}, []part{two}, none, steps(write(two)), 0}, {[]part{one}, []part{two}, isL, steps(cut("a"), write(two)), 0}, {[]part{one}, []part{two}, isD, nil, api.ErrKind}, {[]part{one}, []part{one}, is1, steps(write(one)), 0},
		{[]part{one}, []part{k}, is1, steps(cut("a"), put("a", "2")), 0}, {[]part{one}, []part{k}, isL, steps(cut("a"), put("a", "2")), 0}, {[]part{one}, []part{k}, none, steps(put("a", "2")), 0}, {[]part{l}, []part{k}, isL, steps(cut("a"), put("a", "2")), 0}, {[]part{l}, []part{k}, is1, steps(cut("a"), put("a", "2")), 0}, {[]part{l}, []part{one}, isL, steps(cut("a"), write(one)), 0}, {[]part{l}, []part{one}, is2, steps(write(one)), 0}, {[]part{l}, []part{k}, isD, nil, api.ErrKind},
		// Config files.
		{[]part{same}, []part{other}, is1, steps(write(other)), 0}, {[]part{same}, []part{other}, is2, nil, 0}, {[]part{same}, []part{other}, is3, steps(beside(write(other), "a.new")), 0}, {[]part{same}, []part{same}, is1, steps(write(same)), 0}, {[]part{same}, []part{same}, is3, nil, 0}, {[]part{same}, []part{other}, none, steps(write(other)), 0}, {[]part{same}, []part{other}, isL, steps(cut("a"), write(other)), 0}, {[]part{same}, []part{other}, isD, nil, api.ErrKind},
		{[]part{one}, []part{other}, is3, steps(write(other)), 0}, {[]part{same}, []part{two}, is3, steps(write(two)), 0}, {[]part{same}, []part{k}, is3, steps(cut("a"), put("a", "2")), 0}, {[]part{l}, []part{other}, is3, steps(write(other)), 0},
		// Beside: what stands at .new.
		{[]part{same}, []part{other}, append(is3, isFile("a.new", "x")), steps(beside(write(other), "a.new")), 0}, {[]part{same}, []part{other}, append(is3, isLink("a.new", "x")), nil, api.ErrKind}, {[]part{same}, []part{other}, append(is3, isDir("a.new")), nil, api.ErrKind}, {[]part{same}, []part{other}, append(is2, isDir("a.new")), nil, 0},
		{[]part{same}, []part{other, file("a.new", "")}, is3, nil, api.ErrOwned}, {[]part{same}, []part{other, dir("a.new")}, append(is3, isDir("a.new")), nil, api.ErrOwned}, {[]part{same, file("a.new", "")}, []part{other}, append(is3, isFile("a.new", "")), nil, api.ErrOwned},
		// What goes.
		{[]part{one}, nil, is1, steps(cut("a")), 0}, {[]part{one}, nil, is3, steps(cut("a")), 0}, {[]part{one}, nil, isL, steps(cut("a")), 0}, {[]part{one}, nil, none, nil, 0}, {[]part{one}, nil, isD, nil, 0}, {[]part{l}, nil, isL, steps(cut("a")), 0}, {[]part{l}, nil, is1, steps(cut("a")), 0},
		{[]part{same}, nil, is1, steps(cut("a")), 0}, {[]part{same}, nil, isL, steps(cut("a")), 0}, {[]part{same}, nil, isD, nil, 0}, {[]part{same}, nil, none, nil, 0}, {[]part{same}, nil, is3, steps(rename("a", "a.save")), 0}, {[]part{same}, nil, append(is3, isFile("a.save", "x")), steps(cut("a.save"), rename("a", "a.save")), 0}, {[]part{same}, nil, append(is3, isLink("a.save", "x")), nil, api.ErrKind}, {[]part{same}, nil, append(is3, isDir("a.save")), nil, api.ErrKind}, {[]part{same}, nil, append(is1, isDir("a.save")), steps(cut("a")), 0},
		{[]part{same, link("a.save", "x")}, nil, is3, nil, api.ErrOwned}, {[]part{same}, []part{file("a.save", "")}, is3, nil, api.ErrOwned}, {[]part{same}, []part{dir("a.save")}, is3, nil, api.ErrOwned},
		// Directories.
		{[]part{one}, []part{d}, is1, nil, api.ErrKind}, {[]part{one}, []part{d}, isD, nil, api.ErrKind}, {[]part{l}, []part{d}, none, nil, api.ErrKind}, {[]part{d}, []part{one}, isD, nil, api.ErrKind}, {[]part{d}, []part{one}, none, nil, api.ErrKind}, {[]part{d}, []part{k}, is1, nil, api.ErrKind},
		{[]part{d}, []part{d}, isD, nil, 0}, {[]part{d}, []part{d}, none, steps(mkdir("a")), 0}, {[]part{d}, []part{d}, is1, nil, api.ErrOwned}, {[]part{d}, []part{d}, isL, nil, api.ErrOwned}, {nil, []part{d}, isD, nil, 0}, {nil, []part{d}, is1, nil, api.ErrOwned}, {nil, []part{one}, is1, nil, api.ErrOwned}, {nil, []part{one}, isD, nil, api.ErrOwned}, {nil, []part{one}, none, steps(write(one)), 0},
		{[]part{d}, nil, isD, nil, 0}, {[]part{d}, nil, is1, nil, 0},
	} {
		m, members := pack("n", "2", c.next...)
		b := base(nil, manifest("n", "1", c.old...))
		got, behind, e := plan.Upgrade(b, c.tree, m, members)
		var made []string
		if len(c.want) > 0 && c.want[0].Kind == api.StepMkdir {
			made = []string{"a"}
		}
		check(t, fmt.Sprint("upgrade ", i), got, c.want, behind, owner.Add(owner.Without(b, "n"), m, made), e, c.e)
		if c.next != nil {
			continue
		}
		got, behind, e = plan.Remove(b, c.tree, "n")
		check(t, fmt.Sprint("remove ", i), got, c.want, behind, owner.Without(b, "n"), e, c.e)
	}
}

// P22.2, P22.3: all that goes, in order, config files that were changed among it.
func TestGoes(t *testing.T) {
	n := manifest("n", "1", conf("a", "1"), file("b", "1"), conf("c", "1"), link("d", "1"), conf("e", "1"), file("f", "1"))
	b := base(nil, n)
	is := tree(isFile("a", "2"), isFile("b", "2"), isFile("c", "2"), isLink("d", "2"), isFile("e", "1"), isFile("f", "1"))
	want := steps(rename("a", "a.save"), cut("b"), rename("c", "c.save"), cut("d"), cut("e"), cut("f"))
	got, behind, e := plan.Remove(b, is, "n")
	check(t, "remove", got, want, behind, api.Base{}, e, api.OK)
	m, l := pack("n", "2", file("z", "1"), file("zz", "1"))
	got, behind, e = plan.Upgrade(b, is, m, l)
	check(t, "upgrade", got, append(want, write(file("z", "1")), write(file("zz", "1"))), behind, base(nil, m), e, api.OK)
}

// P22.2: paths that others have.
func TestUpgradeOthers(t *testing.T) {
	o := manifest("o", "1", dir("d"), file("f", "o"), link("g.new", "x"), file("g.save", "o"))
	b := base([]string{"d"}, o, manifest("n", "1", conf("g", "1")))
	is := tree(isDir("d"), isFile("f", "o"), isFile("g", "changed"), isLink("g.new", "x"), isFile("g.save", "o"))
	for i, c := range []struct {
		parts []part
		e     api.Errno
	}{
		{[]part{file("f", "o"), conf("g", "1")}, api.ErrOwned}, {[]part{dir("f"), conf("g", "1")}, api.ErrOwned}, {[]part{file("d", "x"), conf("g", "1")}, api.ErrOwned}, {[]part{conf("g", "2")}, api.ErrOwned}, {nil, api.ErrOwned}, {[]part{dir("d"), file("d/x", "1"), conf("g", "1")}, api.OK},
	} {
		m, l := pack("n", "2", c.parts...)
		got, behind, e := plan.Upgrade(b, is, m, l)
		check(t, fmt.Sprint(i), got, steps(write(file("d/x", "1"))), behind, owner.Add(owner.Without(b, "n"), m, nil), e, c.e)
	}
	// Old is n; the file that o has is o's, whatever stands there.
	m, l := pack("n", "2", file("f", "o"))
	if _, _, e := plan.Upgrade(b, nil, m, l); e != api.ErrOwned {
		t.Errorf("another's path that isn't there: %d", e)
	}
}

// P22.2, P22.3: beside paths that may not be.
func TestBesideLong(t *testing.T) {
	for _, c := range []struct {
		where string
		e     api.Errno
	}{{strings.Repeat("p", 59), api.OK}, {strings.Repeat("p", 60), api.ErrPath}, {strings.Repeat("p", 64), api.ErrPath}, {"d/" + strings.Repeat("p", 57) + strings.Repeat("/"+strings.Repeat("q", 45), 3), api.ErrLong}} {
		old, next := conf(c.where, "1"), conf(c.where, "2")
		parts := func(p ...part) []part {
			var l []part
			for i := range c.where {
				if c.where[i] == '/' {
					l = append(l, dir(c.where[:i]))
				}
			}
			return append(l, p...)
		}
		b := base(nil, manifest("n", "1", parts(old)...))
		is := tree(isFile(c.where, "3"))
		for _, p := range parts()[:] {
			is = append(is, isDir(p.x.Path))
		}
		got, _, e := plan.Remove(b, is, "n")
		if e != c.e || (e == api.OK) != (len(got) == 1) {
			t.Errorf("%d bytes, remove: %d, want %d", len(c.where), e, c.e)
		}
		if c.e == api.ErrPath && len(c.where) == 60 {
			// .new is a byte shorter.
			c.e = api.OK
		}
		m, l := pack("n", "2", parts(next)...)
		if _, _, e := plan.Upgrade(b, is, m, l); e != c.e {
			t.Errorf("%d bytes, upgrade: %d, want %d", len(c.where), e, c.e)
		}
	}
}

// P22.2, P22.3: directories go, the last one first, if they were made and nobody has them behind.
func TestEmpties(t *testing.T) {
	n := manifest("n", "1", dir("a"), dir("b"), dir("b/c"), file("b/c/f", "1"), dir("d"), dir("e"))
	o := manifest("o", "1", dir("d"), dir("g"))
	b := base([]string{"a", "b", "b/c", "d", "g"}, o, n)
	is := tree(isDir("a"), isDir("b"), isDir("b/c"), isFile("b/c/f", "1"), isDir("d"), isDir("e"), isDir("g"))
	got, behind, e := plan.Remove(b, is, "n")
	check(t, "remove", got, steps(cut("b/c/f"), rmdir("b/c"), rmdir("b"), rmdir("a")), behind, owner.Without(b, "n"), e, api.OK)
	// Though they aren't there any more, they are told to go.
	got, behind, e = plan.Remove(b, nil, "n")
	check(t, "remove of nothing", got, steps(rmdir("b/c"), rmdir("b"), rmdir("a")), behind, owner.Without(b, "n"), e, api.OK)
	m, l := pack("n", "2", dir("b"), file("b/f", "2"), dir("e"), dir("h"))
	got, behind, e = plan.Upgrade(b, is, m, l)
	check(t, "upgrade", got, steps(cut("b/c/f"), write(file("b/f", "2")), mkdir("h"), rmdir("b/c"), rmdir("a")), behind, owner.Add(owner.Without(b, "n"), m, []string{"b", "h", "d", "g"}), e, api.OK)
	made := map[string]bool{}
	for _, d := range behind.Dirs {
		made[d.Path] = d.Made
	}
	if !made["b"] || !made["h"] || made["e"] || !made["d"] || !made["g"] || len(made) != 5 {
		t.Errorf("made: %v", made)
	}
	// A directory that was a user's is a user's still, though it was away for a while.
	got, behind, e = plan.Upgrade(b, tree(isDir("b"), isDir("h")), m, l)
	check(t, "e isn't there", got, steps(write(file("b/f", "2")), mkdir("e"), rmdir("b/c"), rmdir("a")), behind, owner.Add(owner.Without(b, "n"), m, []string{"b", "e"}), e, api.OK)
}

// P22.4: no step touches another path, and no config file that was changed is written.
func TestTouched(t *testing.T) {
	kinds := []func(where, data string) part{file, conf, link, func(where, _ string) part { return dir(where) }}
	stands := [][]api.Stat{nil, tree(isFile("a", "1")), tree(isFile("a", "3")), tree(isLink("a", "1")), tree(isDir("a"))}
	for _, was := range kinds {
		for _, will := range kinds {
			for _, is := range stands {
				b := base([]string{"a"}, manifest("n", "1", was("a", "1"), file("b", "1")), manifest("o", "1", file("c", "1")))
				is = append(slices.Clone(is), isFile("b", "1"), isFile("c", "1"), isFile("u", "user"))
				m, l := pack("n", "2", will("a", "2"), dir("v"))
				got, behind, e := plan.Upgrade(b, is, m, l)
				if e != api.OK {
					continue
				}
				if !owner.Check(behind) {
					t.Error("the database behind may not be")
				}
				for _, s := range got {
					if !slices.Contains([]string{"a", "a.new", "a.save", "b", "v"}, s.Path) || s.Target == "c" || s.Target == "u" {
						t.Errorf("%v", s)
					}
					if s.Path == "a" && b.Packs[0].Entries[0].Kind == api.KindConf && m.Entries[0].Kind == api.KindConf && told(is[0]) == told(isFile("a", "3")) {
						t.Errorf("a changed config file: %v", s)
					}
				}
			}
		}
	}
}

// What is handed in isn't changed, and what is answered is new memory.
func TestNewMemory(t *testing.T) {
	old := manifest("n", "1", dir("d"), conf("d/f", "1"))
	b := base([]string{"d"}, old)
	m, l := pack("n", "2", dir("d"), conf("d/f", "2"), file("g", "1"))
	is := tree(isDir("d"), isFile("d/f", "3"))
	was := told([]any{b, m, l, is})
	for i := 0; i < 3; i++ {
		var got []api.Step
		var behind api.Base
		switch i {
		case 0:
			got, behind, _ = plan.Upgrade(b, is, m, l)
		case 1:
			got, behind, _ = plan.Remove(b, is, "n")
		case 2:
			m.Name = "z"
			got, behind, _ = plan.Install(b, nil, m, l)
			m.Name = "n"
		}
		for j := range got {
			got[j] = api.Step{}
		}
		for j, p := range behind.Packs {
			for k := range p.Entries {
				p.Entries[k] = api.Entry{}
			}
			behind.Packs[j] = api.Manifest{}
		}
		for j := range behind.Dirs {
			behind.Dirs[j] = api.Shared{}
		}
	}
	if told([]any{b, m, l, is}) != was {
		t.Error("something was changed that was handed in")
	}
}

// P1: raw manifests, trees and members of any kind end without a panic, and what is refused has nothing beside it.
func TestAnything(t *testing.T) {
	texts := []string{"", "a", "/", "a/b", "..", ".holdall", "\xff", strings.Repeat("x", 300)}
	mine := base([]string{"a"}, manifest("a", "1", dir("a"), conf("a/b", "1")))
	for kind := -2; kind < 8; kind++ {
		for _, where := range texts {
			m := api.Manifest{Name: "a", Entries: []api.Entry{{Kind: kind, Mode: -1, Path: where}, {Kind: kind, Path: where, Target: where}, {Kind: -kind, Path: "a"}}}
			for n := 0; n < 5; n++ {
				members := make([]api.Member, n)
				for _, is := range [][]api.Stat{nil, {{Path: where, Kind: kind}}, {{Path: "a", Kind: kind}, {Path: "a/b", Kind: kind}}} {
					for _, b := range []api.Base{{}, mine, {Packs: []api.Manifest{m}}, {Dirs: []api.Shared{{Path: where}}}} {
						for i := 0; i < 3; i++ {
							var got []api.Step
							var behind api.Base
							var e api.Errno
							switch i {
							case 0:
								got, behind, e = plan.Install(b, is, m, members)
							case 1:
								got, behind, e = plan.Upgrade(b, is, m, members)
							case 2:
								got, behind, e = plan.Remove(b, is, where)
							}
							if e != api.OK && (len(got) > 0 || told(behind) != told(api.Base{})) {
								t.Fatalf("%d: something beside an error", e)
							}
						}
					}
				}
			}
		}
	}
}
