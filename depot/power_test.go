package depot_test

import (
	"crypto/ed25519"
	"fmt"
	"math/rand"
	"slices"
	"strings"
	"testing"

	"holdall/api"
	"holdall/depot"
	"holdall/owner"
	"holdall/parcel"
	"holdall/redo"
	"holdall/solve"
)

func signature(text string) string {
	return string(ed25519.Sign(ed25519.NewKeyFromSeed([]byte(seedOf(1))), []byte(text)))
}

// fused is a depot behind some commands, with so many operations left.
func fused(t *testing.T, sectors int, l []api.Command, fuse int) *depot.Depot {
	t.Helper()
	d := open(t, sectors)
	all(t, d, l...)
	d.Crash(nil, fuse)
	if e := d.Recover(); e != api.OK {
		t.Fatalf("Recover: %d", e)
	}
	return d
}

func fates(r *rand.Rand) []uint8 {
	l := make([]uint8, r.Intn(30))
	r.Read(l)
	return l
}

// recover turns the power on till a recovery goes well; the power may go off in the first ones.
func recovered(t *testing.T, r *rand.Rand, d *depot.Depot) {
	t.Helper()
	for i := 0; ; i++ {
		fuse := r.Intn(20)
		if i > 3 {
			fuse = -1
		}
		if e := d.Crash(fates(r), fuse); e != api.OK {
			t.Fatalf("Crash: %d", e)
		}
		if _, e := d.Tree(); e != api.ErrDown {
			t.Fatalf("a depot is up behind a crash: %d", e)
		}
		e := d.Recover()
		if e == api.OK {
			return
		}
		if e != api.ErrDown || !d.Sectors().Down {
			t.Fatalf("Recover: %d", e)
		}
		if e := d.Recover(); e != api.ErrDown {
			t.Fatalf("Recover without power: %d", e)
		}
	}
}

// P3: wherever the power goes off, in a command and in recoveries.
func TestPower(t *testing.T) {
	r := rand.New(rand.NewSource(24))
	l := script()
	for i, c := range l {
		// The first commands are much alike.
		if i == 0 || i == 2 || i > 12 {
			continue
		}
		before, behind := fused(t, 200, l[:i], -1), fused(t, 200, l[:i+1], -1)
		was, will := stands(t, before), stands(t, behind)
		told, kept := 0, 0
		for fuse := 0; ; fuse++ {
			d := fused(t, 200, l[:i], fuse)
			e := d.Do(c)
			if e != api.OK && e != api.ErrDown {
				t.Fatalf("command %d: %d", i, e)
			}
			if e == api.ErrDown && d.Do(c) != api.ErrDown {
				t.Fatal("a depot is up without power")
			}
			recovered(t, r, d)
			got := stands(t, d)
			if got != will && (got != was || e == api.OK) {
				t.Fatalf("command %d, %d operations (%d): %s", i, fuse, e, got)
			}
			// A recovery of what was recovered changes nothing.
			disk := d.Sectors()
			d.Crash(fates(r), disk.Fuse)
			if e := d.Recover(); e != api.OK || !sameDisk(d.Sectors(), disk) || stands(t, d) != got {
				t.Fatalf("command %d: a second recovery", i)
			}
			// The depot goes on.
			if got == was && was != will {
				d.Crash(nil, -1)
				d.Recover()
				all(t, d, c)
				if stands(t, d) != will {
					t.Fatalf("command %d, done again: %s", i, stands(t, d))
				}
			}
			if e == api.OK {
				told++
				break
			}
			if got == will {
				kept++
			}
		}
		if was != will && kept == 0 {
			t.Errorf("command %d: never kept", i)
		}
	}
}

// P24.3: what a disk has that isn't as it must be.
func TestRecoverBroken(t *testing.T) {
	d := open(t, 40)
	all(t, d, write("x", "1"))
	was := stands(t, d)
	d.Crash(nil, 2)
	if e := d.Recover(); e != api.OK || d.Sectors().Fuse != 2 {
		t.Errorf("Recover: %d, fuse %d", e, d.Sectors().Fuse)
	}
	if e := d.Do(write("x", "2")); e != api.ErrDown || !d.Sectors().Down || len(d.Sectors().Loose) != 2 {
		t.Errorf("Do: %d", e)
	}
	if e := d.Recover(); e != api.ErrDown {
		t.Errorf("Recover without power: %d", e)
	}
	d.Crash([]uint8{1, 1, 1}, -1)
	if e := d.Recover(); e != api.OK || stands(t, d) != was {
		t.Errorf("Recover: %d", e)
	}
	n, ok := redo.Epoch(d.Sectors())
	if n != 2 || !ok {
		t.Errorf("epoch %d", n)
	}
}

// random is a command of a few packages and paths.
func random(r *rand.Rand, packs []string) api.Command {
	paths := []string{"a", "b", "d", "d/a", "d/b", "d/a.new", "d/a.save", "d/e", "d/e/f", "a.new", "b.save"}
	where := paths[r.Intn(len(paths))]
	text := []string{"", "one", "two", "mine"}[r.Intn(4)]
	switch r.Intn(12) {
	case 0, 1, 2:
		return install(packs[r.Intn(len(packs))])
	case 3, 4:
		return upgrade(packs[r.Intn(len(packs))])
	case 5:
		return remove([]string{"p", "q", "r"}[r.Intn(3)])
	case 6:
		l := make([]api.Command, r.Intn(4))
		for i := range l {
			l[i] = random(r, packs)
			if l[i].Kind > api.DoRemove && r.Intn(6) > 0 {
				l[i] = remove([]string{"p", "q", "r"}[r.Intn(3)])
			}
		}
		return batch(l...)
	case 7, 8:
		return write(where, text)
	case 9:
		return del(where)
	case 10:
		return mkdir(where)
	}
	return symlink(where, "t"+text)
}

// somePacks are versions of three packages that get in one another's way.
func somePacks() []string {
	var l []string
	for _, v := range []string{"1", "2"} {
		text := map[string]string{"1": "one", "2": "two"}[v]
		l = append(l,
			pack("p", v, conf("a", text), dir("d"), conf("d/a", text), file("d/b", text)),
			pack("p", v, dir("d"), conf("d/a", "one"), dir("d/e"), file("d/e/f", text)),
			ruled("q", v, []api.Rule{needs("p", api.OpGe, "2")}, nil, conf("b", text), dir("d"), dir("d/e"), link("d/e/f", text)),
			ruled("r", v, nil, []api.Rule{needs("q", api.OpLt, "2")}, file("a", text), link("b", "x"), dir("d"), file("d/b", text)),
			pack("r", v, dir("a"), dir("d"), conf("d/a", text), link("d/b", text)),
			pack("q", v, dir("d"), conf("d/e", text)))
	}
	return l
}

// mayTouch is the paths that a command may touch: those of its manifests, old and new, those beside them, and a user's own.
func mayTouch(b api.Base, l []api.Command) map[string]bool {
	may := map[string]bool{}
	for _, c := range l {
		if c.Kind > api.DoBatch {
			may[c.Path] = true
			continue
		}
		m, _, _ := parcel.Open(c.Pack, []string{keyOf(1)})
		old, _ := owner.Find(b, c.Name+m.Name)
		for _, x := range append(old.Entries, m.Entries...) {
			may[x.Path], may[x.Path+".new"], may[x.Path+".save"] = true, true, true
		}
	}
	return may
}

// touched is the paths at which two trees differ.
func touched(a, b []api.Stat) []string {
	var l []string
	for _, s := range a {
		if !slices.Contains(b, s) {
			l = append(l, s.Path)
		}
	}
	for _, s := range b {
		if !slices.Contains(a, s) {
			l = append(l, s.Path)
		}
	}
	return l
}

// P2, P4, P5: scripts against the machine that has plain lists.
func TestMachine(t *testing.T) {
	packs := somePacks()
	seen := map[api.Errno]int{}
	for seed := int64(0); seed < 6; seed++ {
		r := rand.New(rand.NewSource(seed))
		d, m := open(t, 500), newMachine(keyOf(1))
		named := map[string]bool{}
		for i := 0; i < 250; i++ {
			c := random(r, packs)
			treeWas, _ := d.Tree()
			baseWas, _ := d.Packs()
			next := m.copy()
			want := next.do(c)
			got := d.Do(c)
			if got != want {
				t.Fatalf("seed %d, command %d (kind %d, %s): %d, want %d", seed, i, c.Kind, c.Path, got, want)
			}
			if got == api.OK {
				m = next
			}
			seen[got]++
			l, _ := d.Tree()
			b, _ := d.Packs()
			if !slices.Equal(l, m.list()) || told(b) != told(m.base) {
				t.Fatalf("seed %d, command %d (kind %d, %d): %v, want %v", seed, i, c.Kind, got, l, m.list())
			}
			for _, where := range []string{"a", "b", "d", "d/a", "d/e/f", "d/a.new", "x"} {
				s, e := d.Owner(where)
				if ws, we := m.owner(where); s != ws || e != we {
					t.Fatalf("Owner of %s: %q, %d, want %q, %d", where, s, e, ws, we)
				}
			}
			// P5, by its words.
			if solve.Solve(b.Packs) != api.OK || !owner.Check(b) {
				t.Fatal("what is needed isn't there, or a path has two owners")
			}
			may := mayTouch(baseWas, append([]api.Command{c}, c.All...))
			for _, where := range touched(treeWas, l) {
				if !may[where] {
					t.Fatalf("seed %d, command %d (kind %d) has touched %s", seed, i, c.Kind, where)
				}
			}
			if got == api.OK {
				named[c.Path] = true
			}
			audit, _ := d.Audit()
			for _, f := range audit {
				if !named[f.Path] {
					t.Fatalf("seed %d, command %d (kind %d): %v, though no user named it", seed, i, c.Kind, f)
				}
			}
		}
	}
	for _, e := range []api.Errno{api.OK, api.ErrThere, api.ErrMissing, api.ErrOwned, api.ErrNeeds, api.ErrClash, api.ErrKind} {
		if seen[e] == 0 {
			t.Errorf("error %d was never met (%v)", e, seen)
		}
	}
}

// P4: whatever byte of a package is turned: it is refused, or it is the same all the same.
func TestTrust(t *testing.T) {
	p := pack("a", "1", conf("c", "two"), file("f", "one"))
	want := open(t, 60)
	all(t, want, install(p))
	for i := 0; i < len(p); i += 3 {
		if i > 400 && p[i] == 0 && i%21 != 0 {
			continue
		}
		b := []byte(p)
		b[i] ^= 4
		d := open(t, 60)
		was := stands(t, d)
		if e := d.Do(install(string(b))); e != api.OK {
			if stands(t, d) != was {
				t.Errorf("byte %d: refused, but changed", i)
			}
			continue
		}
		for _, where := range []string{"f", "c"} {
			if data(t, d, where) != data(t, want, where) {
				t.Errorf("byte %d: %q", i, data(t, d, where))
			}
		}
	}
	ring := []string{keyOf(3), keyOf(1)}
	d, _ := depot.New(60, ring)
	ring[1] = keyOf(2)
	if e := d.Do(install(p)); e != api.OK {
		t.Errorf("the ring is kept, not the caller's list: %d", e)
	}
	d, _ = depot.New(60, nil)
	if e := d.Do(install(p)); e != api.ErrSign {
		t.Errorf("no ring: %d", e)
	}
}

// P7: config files in upgrades, by who changed what.
func TestConfigFiles(t *testing.T) {
	for _, c := range []struct{ came, is, comes, want, beside string }{
		{"a", "a", "b", "b", "(none)"}, {"a", "a", "a", "a", "(none)"}, {"a", "c", "a", "c", "(none)"}, {"a", "c", "c", "c", "(none)"}, {"a", "c", "b", "c", "b"},
	} {
		d := open(t, 60)
		all(t, d, install(pack("p", "1", conf("f", c.came))))
		if c.is != c.came {
			all(t, d, write("f", c.is))
		}
		all(t, d, upgrade(pack("p", "2", conf("f", c.comes))))
		if got := data(t, d, "f"); got != c.want || data(t, d, "f.new") != c.beside {
			t.Errorf("%v: %q, %q", c, got, data(t, d, "f.new"))
		}
		all(t, d, remove("p"))
		save := "(none)"
		if c.want != c.comes {
			save = c.is
		}
		if data(t, d, "f.save") != save || data(t, d, "f") != "(none)" {
			t.Errorf("%v, removed: %q", c, data(t, d, "f.save"))
		}
	}
}

// P8: small scripts find room on a disk of 2048 sectors.
func TestRoom(t *testing.T) {
	d := open(t, 2048)
	left := 6000
	for i := 0; left > 70; i++ {
		where := fmt.Sprintf("%02d", i)
		c := mkdir(where)
		left -= 64 + len(where)
		if left < 0 {
			break
		}
		all(t, d, c)
	}
	d = open(t, 2048)
	all(t, d, write("f", strings.Repeat("x", 5935)))
	d = open(t, 2048)
	p := pack("a", "1", file("f", "x"))
	all(t, d, install(p), remove("a"))
	if 2*64+len(p) > 6000 {
		t.Error("the script is too long to say")
	}
}

// What is answered is new memory; what is handed in isn't changed, nor kept.
func TestNewMemory(t *testing.T) {
	d := open(t, 100)
	l := append(make([]api.Command, 0, 9), install(ruled("a", "1", []api.Rule{needs("b", 0, "")}, []api.Rule{needs("c", 0, "")}, dir("d"), file("d/f", "1"))), install(pack("b", "1")))
	all(t, d, batch(l...))
	if len(l) != 2 || l[:3][2].Kind != 0 {
		t.Error("the commands were changed")
	}
	was := stands(t, d)
	b, _ := d.Packs()
	for i := range b.Packs {
		for j := range b.Packs[i].Entries {
			b.Packs[i].Entries[j] = api.Entry{}
		}
		for j := range b.Packs[i].Needs {
			b.Packs[i].Needs[j] = api.Rule{}
			b.Packs[i].Clashes[j] = api.Rule{}
		}
		b.Packs[i] = api.Manifest{}
	}
	for i := range b.Dirs {
		b.Dirs[i] = api.Shared{}
	}
	s, _ := d.Tree()
	for i := range s {
		s[i] = api.Stat{}
	}
	if stands(t, d) != was {
		t.Error("an answer shares memory with the depot")
	}
	all(t, d, remove("a"), remove("b"))
	if _, _, e := parcel.Open(l[0].Pack, []string{keyOf(1)}); e != api.OK {
		t.Error("the package was changed")
	}
}

// P1: commands of any kind, with any bytes, end without a panic; what is refused has changed nothing.
func TestAnything(t *testing.T) {
	r := rand.New(rand.NewSource(3))
	d := open(t, 100)
	good := pack("a", "1", dir("d"), conf("d/f", "1"))
	texts := []string{"", "a", "d", "d/f", "/", "..", ".holdall/base", "\xff", strings.Repeat("x", 300), good, good[:74], "HOLD1\n" + strings.Repeat("\xff", 80)}
	for i := 0; i < 1500; i++ {
		text := func() string { return texts[r.Intn(len(texts))] }
		c := api.Command{Kind: r.Intn(12) - 1, Pack: text(), Name: text(), Path: text(), Data: text(), Mode: r.Intn(8192) - 1024}
		for n := r.Intn(10); n > 0 && c.Kind == api.DoBatch; n-- {
			c.All = append(c.All, api.Command{Kind: r.Intn(6), Pack: text(), Name: text()})
		}
		was := stands(t, d)
		if e := d.Do(c); e != api.OK && stands(t, d) != was {
			t.Fatalf("%d, but something has changed", e)
		}
	}
}
