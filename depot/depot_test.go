package depot_test

import (
	"fmt"
	"math"
	"slices"
	"strings"
	"testing"

	"holdall/act"
	"holdall/api"
	"holdall/block"
	"holdall/depot"
	"holdall/owner"
	"holdall/parcel"
	"holdall/path"
	"holdall/plan"
	"holdall/redo"
	"holdall/tree"
)

func open(t *testing.T, sectors int) *depot.Depot {
	t.Helper()
	d, e := depot.New(sectors, []string{keyOf(1)})
	if e != api.OK {
		t.Fatalf("New: %d", e)
	}
	return d
}

// all does commands that have no error.
func all(t *testing.T, d *depot.Depot, l ...api.Command) {
	t.Helper()
	for i, c := range l {
		if e := d.Do(c); e != api.OK {
			t.Fatalf("command %d (kind %d, %s%s): %d", i, c.Kind, c.Path, c.Name, e)
		}
	}
}

// refuse does a command that has an error, and sees that it changes nothing.
func refuse(t *testing.T, d *depot.Depot, c api.Command, want api.Errno) {
	t.Helper()
	was := stands(t, d) + told(d.Sectors())
	if e := d.Do(c); e != want {
		t.Errorf("%d, want %d", e, want)
	}
	if stands(t, d)+told(d.Sectors()) != was {
		t.Errorf("what was refused (%d) has changed something", want)
	}
}

// stands is all that a depot tells of its tree and its database.
func stands(t *testing.T, d *depot.Depot) string {
	t.Helper()
	l, e := d.Tree()
	if e != api.OK {
		t.Fatalf("Tree: %d", e)
	}
	b, e := d.Packs()
	if e != api.OK {
		t.Fatalf("Packs: %d", e)
	}
	f, e := d.Audit()
	if e != api.OK {
		t.Fatalf("Audit: %d", e)
	}
	return told(l) + told(b) + told(f)
}

func data(t *testing.T, d *depot.Depot, where string) string {
	t.Helper()
	l, _ := d.Tree()
	for _, s := range l {
		if s.Path == where {
			return s.Data
		}
	}
	return "(none)"
}

func findings(t *testing.T, d *depot.Depot) string {
	t.Helper()
	l, e := d.Audit()
	if e != api.OK {
		t.Fatalf("Audit: %d", e)
	}
	return told(l)
}

func sameDisk(a, b api.Disk) bool {
	return slices.Equal(a.Safe, b.Safe) && slices.Equal(a.Loose, b.Loose) && a.Fuse == b.Fuse && a.Down == b.Down
}

// P24.1: the disk of a new depot, made of the layers below.
func TestNew(t *testing.T) {
	if depot.Path() != ".holdall/base" {
		t.Errorf("%q", depot.Path())
	}
	for _, n := range []int{32, 33, 200, 2048} {
		d := open(t, n)
		disk, _ := block.New(n)
		disk, _ = redo.Format(disk)
		img, _ := tree.Make(n - n/4)
		img, _ = tree.Mkdir(img, api.Step{Path: ".holdall", Mode: 0700})
		img, _ = tree.Write(img, api.Step{Path: ".holdall/base", Mode: 0600, Data: "base 1\nend\n"})
		for i, s := range img {
			disk, _ = block.Put(disk, n/4+i, s)
		}
		disk, _ = block.Flush(disk)
		if !sameDisk(d.Sectors(), disk) {
			t.Errorf("%d sectors: another disk", n)
		}
		if stands(t, d) != told([]api.Stat{})+told(api.Base{})+told([]api.Finding{}) {
			t.Errorf("%d sectors: %s", n, stands(t, d))
		}
	}
	keys := slices.Repeat([]string{"k"}, 9)
	for _, n := range []int{31, 2049, 0, -1, math.MaxInt, math.MinInt} {
		if d, e := depot.New(n, nil); d != nil || e != api.ErrArg {
			t.Errorf("%d sectors: %d", n, e)
		}
	}
	if d, e := depot.New(32, keys); d != nil || e != api.ErrArg {
		t.Errorf("9 keys: %d", e)
	}
	if d, e := depot.New(32, keys[:8]); d == nil || e != api.OK {
		t.Errorf("8 keys: %d", e)
	}
}

// P24.4: nobody's depot, and one that is down.
func TestNilAndDown(t *testing.T) {
	down := open(t, 40)
	down.Crash(nil, -1)
	for _, c := range []struct {
		d *depot.Depot
		e api.Errno
	}{{nil, api.ErrArg}, {down, api.ErrDown}} {
		for kind := -1; kind < 10; kind++ {
			if e := c.d.Do(api.Command{Kind: kind}); e != c.e {
				t.Errorf("Do: %d", e)
			}
		}
		b, e := c.d.Packs()
		if e != c.e || told(b) != told(api.Base{}) {
			t.Errorf("Packs: %d", e)
		}
		l, e := c.d.Tree()
		if e != c.e || len(l) != 0 {
			t.Errorf("Tree: %d", e)
		}
		if s, e := c.d.Owner("a"); e != c.e || s != "" {
			t.Errorf("Owner: %d", e)
		}
		f, e := c.d.Audit()
		if e != c.e || len(f) != 0 {
			t.Errorf("Audit: %d", e)
		}
	}
	var none *depot.Depot
	if none.Crash(nil, 0) != api.ErrArg || none.Recover() != api.ErrArg || told(none.Sectors()) != told(api.Disk{}) {
		t.Error("nobody's depot")
	}
	if len(down.Sectors().Safe) != 40 || down.Recover() != api.OK || down.Recover() != api.OK {
		t.Error("a depot that was down")
	}
}

// The chapter's examples, and the document's ten.
func TestExamples(t *testing.T) {
	d := open(t, 200)
	a := pack("a", "1", dir("etc"), conf("etc/f", "one"))
	all(t, d, install(a))
	if s, e := d.Owner("etc/f"); s != "a" || e != api.OK {
		t.Errorf("Owner: %q, %d", s, e)
	}
	if s, e := d.Owner("etc"); s != "" || e != api.ErrNone {
		t.Errorf("Owner of a directory: %q, %d", s, e)
	}
	refuse(t, d, install(a), api.ErrThere)
	refuse(t, d, upgrade(pack("b", "1")), api.ErrMissing)
	all(t, d, write("etc/f", "mine"))
	if got := findings(t, d); got != told([]api.Finding{{Path: "etc/f", What: 3}}) {
		t.Errorf("Audit: %s", got)
	}
	all(t, d, upgrade(pack("a", "2", dir("etc"), conf("etc/f", "two"))))
	if data(t, d, "etc/f") != "mine" || data(t, d, "etc/f.new") != "two" {
		t.Errorf("%q, %q", data(t, d, "etc/f"), data(t, d, "etc/f.new"))
	}
	all(t, d, remove("a"))
	if data(t, d, "etc/f.save") != "mine" || data(t, d, "etc/f") != "(none)" || data(t, d, "etc/f.new") != "two" || data(t, d, "etc") != "" {
		t.Error("Remove")
	}
	b := []byte(a)
	b[10] ^= 1
	refuse(t, d, install(string(b)), api.ErrSign)
	m, l := manifest("a", "1", file("x", "one"))
	l[0].Data = "two"
	refuse(t, d, install(build(1, m, l)), api.ErrMatch)
	refuse(t, d, install(build(2, m, l)), api.ErrSign)
	refuse(t, d, install(pack("c", "1", dir("etc"), conf("etc/f.save", "x"))), api.ErrOwned)
	all(t, d, del("etc/f.save"), del("etc/f.new"), install(a))
	refuse(t, d, install(pack("c", "1", dir("etc"), file("etc/f", "one"))), api.ErrOwned)
	need := ruled("n", "1", []api.Rule{needs("b", api.OpGe, "2")}, nil)
	refuse(t, d, install(need), api.ErrNeeds)
	refuse(t, d, batch(install(need), install(pack("b", "1.9"))), api.ErrNeeds)
	all(t, d, batch(install(need), install(pack("b", "2"))))
	refuse(t, d, remove("b"), api.ErrNeeds)
	refuse(t, d, install(ruled("z", "1", nil, []api.Rule{needs("b", api.OpAny, "")})), api.ErrClash)
	all(t, d, symlink("lib", "/usr"))
	refuse(t, d, install(pack("y", "1", dir("lib"), file("lib/x", ""))), api.ErrOwned)
}

// A path of the installer's own in a package: such a one can't be built, so its text is written by hand.
func TestReserved(t *testing.T) {
	d := open(t, 100)
	for _, c := range []api.Command{write(".holdall/base", "x"), del(".holdall/base"), del(".holdall"), mkdir(".holdall/x"), symlink(".holdall/x", "y"), write(".holdall", ""), {Kind: api.DoWrite, Path: ".holdall/x", Mode: -1}} {
		refuse(t, d, c, api.ErrReserved)
	}
	for _, where := range []string{".holdall/", ".holdall/../x", "/.holdall"} {
		refuse(t, d, del(where), api.ErrPath)
	}
	refuse(t, d, install(signed("holdall 1\nname a\nversion 1\ndir 0755 .holdall\n")), api.ErrReserved)
	all(t, d, mkdir("a"), write("a/.holdall", "x"), write(".holdallx", "y"))
	l, _ := d.Tree()
	for _, s := range l {
		if path.Reserved(s.Path) {
			t.Errorf("%s is told", s.Path)
		}
	}
	if len(l) != 3 {
		t.Errorf("%v", l)
	}
	if s, e := d.Owner(".holdall/base"); s != "" || e != api.ErrNone {
		t.Errorf("%q, %d", s, e)
	}
}

// P24.2: errors of commands, in their order.
func TestErrors(t *testing.T) {
	d := open(t, 200)
	a, b := pack("a", "1", file("f", "1")), pack("b", "1")
	all(t, d, install(a), mkdir("d"), write("d/g", "x"), symlink("l", "d"))
	nine := slices.Repeat([]api.Command{install(b)}, 9)
	for i, c := range []struct {
		c api.Command
		e api.Errno
	}{
		{api.Command{}, api.ErrArg}, {api.Command{Kind: 9, Path: "/"}, api.ErrArg}, {api.Command{Kind: -1}, api.ErrArg}, {api.Command{Kind: math.MaxInt}, api.ErrArg}, {api.Command{Kind: math.MinInt}, api.ErrArg},
		{install(""), api.ErrForm}, {upgrade("x"), api.ErrForm}, {install(a), api.ErrThere}, {upgrade(b), api.ErrMissing}, {remove("b"), api.ErrMissing}, {remove(""), api.ErrMissing}, {api.Command{Kind: api.DoInstall, Name: "a", Path: "x"}, api.ErrForm},
		{batch(nine...), api.ErrLong}, {batch(nine[:2]...), api.ErrThere}, {batch(install(b), write("x", "")), api.ErrArg}, {batch(write("x", ""), install("")), api.ErrArg}, {batch(install(""), write("x", "")), api.ErrForm}, {batch(install(b), batch()), api.ErrArg}, {batch(batch(install(b))), api.ErrArg}, {batch(api.Command{}), api.ErrArg}, {batch(install(b), remove("c")), api.ErrMissing}, {batch(slices.Repeat([]api.Command{{}}, 9)...), api.ErrLong},
		{write("", "x"), api.ErrPath}, {write("/x", "x"), api.ErrPath}, {mkdir(strings.Repeat("x", 201)), api.ErrLong}, {del("a/../b"), api.ErrPath}, {api.Command{Kind: api.DoWrite, Path: "x", Mode: 010000}, api.ErrArg}, {api.Command{Kind: api.DoMkdir, Path: "x", Mode: -1}, api.ErrArg}, {api.Command{Kind: api.DoLink, Path: "x", Mode: -1, Data: "y"}, api.ErrArg}, {api.Command{Kind: api.DoWrite, Path: "/", Mode: -1}, api.ErrPath},
		{write("d", "x"), api.ErrKind}, {write("l", "x"), api.ErrKind}, {write("n/x", "x"), api.ErrNone}, {write("f/x", "x"), api.ErrPath}, {write("l/x", "x"), api.ErrPath}, {write("x", strings.Repeat("x", 14593)), api.ErrLong}, {mkdir("d"), api.ErrExists}, {mkdir("f"), api.ErrExists}, {symlink("f", "x"), api.ErrExists}, {symlink("x", ""), api.ErrPath}, {symlink("x", "a b"), api.ErrPath}, {del("n"), api.ErrNone}, {del("n/x"), api.ErrNone}, {del("f/x"), api.ErrPath}, {del("d"), api.ErrEmpty},
	} {
		t.Run(fmt.Sprint(i), func(t *testing.T) { refuse(t, d, c.c, c.e) })
	}
	all(t, d, del("d/g"), del("d"), del("l"), del("f"))
	if l, _ := d.Tree(); len(l) != 0 {
		t.Errorf("%v", l)
	}
}

// signed is a package of a text, without members.
func signed(text string) string {
	m, l := manifest("a", "1")
	s := build(1, m, l)
	p, _ := parcel.Unwrap(s)
	p.Text = text
	p.Sig = signature(text)
	s, _ = parcel.Wrap(p)
	return s
}

// expected is the disk behind a command that goes well, made of the layers below.
func expected(t *testing.T, d *depot.Depot, l []api.Command) api.Disk {
	t.Helper()
	disk := d.Sectors()
	img, _ := redo.Home(disk)
	was := img
	b, _ := d.Packs()
	user := false
	for _, c := range l {
		m, members, _ := parcel.Open(c.Pack, []string{keyOf(1)})
		stats, _ := tree.List(img)
		var steps []api.Step
		switch c.Kind {
		case api.DoInstall:
			steps, b, _ = plan.Install(b, stats, m, members)
		case api.DoUpgrade:
			steps, b, _ = plan.Upgrade(b, stats, m, members)
		case api.DoRemove:
			steps, b, _ = plan.Remove(b, stats, c.Name)
		case api.DoWrite:
			steps, user = []api.Step{{Kind: api.StepWrite, Path: c.Path, Mode: c.Mode, Data: c.Data}}, true
		case api.DoMkdir:
			steps, user = []api.Step{{Kind: api.StepMkdir, Path: c.Path, Mode: c.Mode}}, true
		case api.DoLink:
			steps, user = []api.Step{{Kind: api.StepLink, Path: c.Path, Mode: c.Mode, Target: c.Data}}, true
		case api.DoDelete:
			kind := api.StepCut
			if s, _ := tree.Stat(img, c.Path); s.Kind == api.KindDir {
				kind = api.StepRmdir
			}
			steps, user = []api.Step{{Kind: kind, Path: c.Path}}, true
		}
		img, _ = act.All(img, steps)
	}
	if !user {
		text, _ := owner.Print(b)
		img, _ = tree.Write(img, api.Step{Path: ".holdall/base", Mode: 0600, Data: text})
	}
	disk, e := redo.Commit(disk, act.Changes(was, img))
	if e != api.OK {
		t.Fatalf("Commit: %d", e)
	}
	return disk
}

// script is commands that all go well, of all kinds.
func script() []api.Command {
	big := strings.Repeat("b", 3000)
	return []api.Command{
		mkdir("u"), write("u/x", "user"), symlink("u/l", "../x"),
		install(pack("a", "1", file("bin", big), dir("etc"), conf("etc/a", "one"), conf("etc/b", "one"), link("l", "bin"))),
		write("etc/a", "mine"),
		batch(install(ruled("b", "1", []api.Rule{needs("c", api.OpAny, "")}, nil, dir("etc"), file("etc/bb", "b"))), install(pack("c", "1.0", dir("lib"), file("lib/c", "c")))),
		upgrade(pack("a", "2", conf("bin", "small"), dir("etc"), conf("etc/a", "two"), link("l", "etc"), file("m", ""))),
		write("bin", "changed"), del("l"), del("u/x"),
		batch(remove("b"), remove("c")),
		batch(),
		remove("a"),
		write("etc/a.save", ""), del("etc/a.save"), del("etc/a.new"),
	}
}

// P24.2: the disk behind each command, sector by sector.
func TestDisk(t *testing.T) {
	d := open(t, 200)
	for i, c := range script() {
		l := []api.Command{c}
		if c.Kind == api.DoBatch {
			l = c.All
		}
		want := expected(t, d, l)
		all(t, d, c)
		if !sameDisk(d.Sectors(), want) {
			t.Errorf("command %d: another disk", i)
		}
		// P24.5: what is told stands on the disk.
		was := stands(t, d)
		disk := d.Sectors()
		d.Crash([]uint8{1, 2, 3}, -1)
		if e := d.Recover(); e != api.OK || stands(t, d) != was || !sameDisk(d.Sectors(), disk) {
			t.Errorf("command %d: it doesn't stand on the disk: %d", i, e)
		}
	}
}

// P24.5: a batch of one is that one; and a batch comes to what its commands come to, one by one.
func TestBatch(t *testing.T) {
	a, b, c := pack("a", "1", dir("d"), file("d/a", "1")), pack("b", "1", dir("d"), link("d/b", "2")), pack("a", "2", dir("d"), conf("d/c", "1"))
	one, two, three := open(t, 200), open(t, 200), open(t, 200)
	l := []api.Command{install(a), install(b), upgrade(c), remove("b")}
	for _, x := range l {
		all(t, one, x)
		all(t, two, batch(x))
		if !sameDisk(one.Sectors(), two.Sectors()) {
			t.Error("a batch of one is another")
		}
	}
	all(t, three, batch(l...))
	if stands(t, one) != stands(t, three) {
		t.Errorf("%s, want %s", stands(t, three), stands(t, one))
	}
	eight := slices.Repeat([]api.Command{remove("a"), install(a)}, 4)
	all(t, three, batch(eight...))
	if s, e := three.Owner("d/a"); s != "a" || e != api.OK {
		t.Errorf("%q, %d", s, e)
	}
}

// P6: a package that is installed and removed leaves the tree and the database as they were.
func TestBack(t *testing.T) {
	d := open(t, 200)
	all(t, d, mkdir("u"), install(pack("o", "1", dir("u"), dir("v"), file("v/o", "1"))))
	for _, p := range []string{pack("a", "1"), pack("a", "1", dir("u"), file("u/a", "1"), dir("v"), link("v/a", "x"), dir("w"), dir("w/x"), conf("w/x/c", "2")), pack("n", "1", file("f", strings.Repeat("x", 5000))), ruled("z", "1", []api.Rule{needs("o", api.OpAny, "")}, []api.Rule{needs("q", api.OpAny, "")}, dir("v"), dir("v/z"))} {
		was := stands(t, d)
		m, _, _ := parcel.Open(p, []string{keyOf(1)})
		all(t, d, install(p))
		if stands(t, d) == was {
			t.Error("an install changes nothing")
		}
		all(t, d, remove(m.Name))
		if stands(t, d) != was {
			t.Errorf("%s leaves something: %s, want %s", m.Name, stands(t, d), was)
		}
	}
}

// P2: a disk that is full, or whose log is: nothing has changed.
func TestFull(t *testing.T) {
	d := open(t, 48)
	refuse(t, d, write("x", strings.Repeat("x", 14592)), api.ErrSpace)
	refuse(t, d, write("x", strings.Repeat("x", 15*256)), api.ErrLog)
	// Twelve sectors of log: nine writes fit; a file has its node, the root's names (and their block) beside it.
	all(t, d, write("x", strings.Repeat("x", 6*256)))
	refuse(t, d, install(pack("a", "1", file("a", strings.Repeat("a", 6*256)))), api.ErrLog)
	seen := map[api.Errno]int{}
	for i := 0; i < 30; i++ {
		c := write(fmt.Sprintf("f%02d", i), "x")
		was := stands(t, d) + told(d.Sectors())
		e := d.Do(c)
		seen[e]++
		if e != api.OK && stands(t, d)+told(d.Sectors()) != was {
			t.Errorf("%d, but something has changed", e)
		}
	}
	if seen[api.OK] == 0 || seen[api.ErrSpace] == 0 {
		t.Errorf("%v", seen)
	}
	// A database's text is at most a file's bytes.
	d = open(t, 2048)
	e, n := api.OK, 0
	for ; e == api.OK && n < 32; n++ {
		var l []part
		for i := 0; i < 20; i++ {
			l = append(l, link(fmt.Sprintf("%02d-%02d", n, i), strings.Repeat("t", 190)))
		}
		was := stands(t, d) + told(d.Sectors())
		e = d.Do(install(pack(fmt.Sprintf("p%02d", n), "1", l...)))
		if e != api.OK && stands(t, d)+told(d.Sectors()) != was {
			t.Error("something has changed")
		}
	}
	if e != api.ErrSpace || n < 3 {
		t.Errorf("%d packages: %d", n, e)
	}
}

// filling is a package that brings a database's text to so many bytes.
func filling(t *testing.T, b api.Base, size int) string {
	t.Helper()
	for n := 1; n < 64; n++ {
		var l []part
		for i := 0; i < n; i++ {
			l = append(l, link(fmt.Sprintf("z%02d", i), strings.Repeat("t", 200)))
		}
		for long := 1; long <= 200; long++ {
			l[n-1] = link(l[n-1].x.Path, strings.Repeat("t", long))
			m, members := manifest("z", "1", l...)
			text, _ := owner.Print(owner.Add(b, m, nil))
			if len(text) == size {
				return build(1, m, members)
			}
		}
	}
	t.Fatalf("no package brings the text to %d bytes", size)
	return ""
}

// P24.2: the database's text may have as many bytes as a file, and not one more.
func TestFullText(t *testing.T) {
	d := open(t, 2048)
	for n := 0; n < 3; n++ {
		var l []part
		for i := 0; i < 21; i++ {
			l = append(l, link(fmt.Sprintf("%d-%02d", n, i), strings.Repeat("t", 200)))
		}
		all(t, d, install(pack(fmt.Sprintf("p%d", n), "1", l...)))
	}
	b, _ := d.Packs()
	refuse(t, d, install(filling(t, b, api.MaxFile+1)), api.ErrSpace)
	all(t, d, install(filling(t, b, api.MaxFile)))
	// An upgrade may bring it there, too.
	all(t, d, upgrade(filling(t, b, api.MaxFile-1)))
	refuse(t, d, upgrade(filling(t, b, api.MaxFile+1)), api.ErrSpace)
}
