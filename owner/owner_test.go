package owner_test

import (
	"fmt"
	"math"
	"strings"
	"testing"

	"holdall/api"
	"holdall/manifest"
	"holdall/owner"
)

// same tells whether two databases are, lists that hold nothing alike.
func same(a, b any) bool { return fmt.Sprintf("%q", []any{a}) == fmt.Sprintf("%q", []any{b}) }

var sum = strings.Repeat("s", 32)

func dir(where string) api.Entry { return api.Entry{Kind: api.KindDir, Mode: 0755, Path: where} }
func file(where string) api.Entry {
	return api.Entry{Kind: api.KindFile, Mode: 0644, Sum: sum, Path: where}
}
func conf(where string) api.Entry {
	return api.Entry{Kind: api.KindConf, Mode: 0644, Sum: sum, Path: where}
}
func link(where string) api.Entry {
	return api.Entry{Kind: api.KindLink, Path: where, Target: "z"}
}

func pack(name string, l ...api.Entry) api.Manifest {
	return api.Manifest{Name: name, Version: "1", Entries: l}
}

func packs(l ...api.Manifest) []api.Manifest { return l }

func shared(where string, refs int, made bool) api.Shared {
	return api.Shared{Path: where, Refs: refs, Made: made}
}

// sample is a database that may be.
func sample() api.Base {
	a := pack("a", conf("c"), dir("x"), file("x/a"), dir("x/d"))
	a.Needs = []api.Rule{{Name: "b", Op: api.OpGe, Version: "1"}}
	a.Clashes = []api.Rule{{Name: "z"}}
	return api.Base{
		Packs: packs(a, pack("b", dir("w"), dir("x"), link("x/b")), pack("c"), pack("d", dir("x"), dir("x/d"))),
		Dirs:  []api.Shared{shared("w", 1, true), shared("x", 3, false), shared("x/d", 2, true)},
	}
}

// P19.1: of any database the first ones count.
func TestFindHasOwner(t *testing.T) {
	odd := api.Base{Packs: packs(pack("b", file("f"), dir("f"), dir("g"), file("g")), pack("a", file("f"), file("h"), link("i")), pack("b", file("z")), pack("", file("")), pack("e", conf("j"), file("g")))}
	for name, want := range map[string]int{"b": 0, "a": 1, "": 3, "e": 4} {
		if m, ok := owner.Find(odd, name); !ok || !same(m, odd.Packs[want]) {
			t.Errorf("Find %q: %v, %v", name, m, ok)
		}
	}
	for _, name := range []string{"c", "A", "bb"} {
		if m, ok := owner.Find(odd, name); ok || !same(m, api.Manifest{}) {
			t.Errorf("Find %q: %v, %v", name, m, ok)
		}
	}
	for where, want := range map[string]string{"f": "b", "h": "a", "i": "a", "z": "b", "": "", "j": "e", "g": "e"} {
		if name, ok := owner.Owner(odd, where); !ok || name != want {
			t.Errorf("Owner %q: %q, %v", where, name, ok)
		}
	}
	for _, where := range []string{"x", "f/", "/f"} {
		if name, ok := owner.Owner(odd, where); ok || name != "" {
			t.Errorf("Owner %q: %q, %v", where, name, ok)
		}
	}
	if name, ok := owner.Owner(sample(), "x"); ok || name != "" {
		t.Errorf("a directory's owner: %q", name)
	}
	for where, want := range map[string]int{"f": 0, "g": 2} {
		if x, ok := owner.Has(odd.Packs[0], where); !ok || x != odd.Packs[0].Entries[want] {
			t.Errorf("Has %q: %v, %v", where, x, ok)
		}
	}
	if x, ok := owner.Has(odd.Packs[0], "h"); ok || x != (api.Entry{}) {
		t.Errorf("Has h: %v, %v", x, ok)
	}
	if _, ok := owner.Owner(api.Base{}, "f"); ok {
		t.Error("an owner in nothing")
	}
}

// text is the chapter's text of a database.
func text(t *testing.T, b api.Base) string {
	t.Helper()
	s := "base 1\n"
	for _, m := range b.Packs {
		one, e := manifest.Print(m)
		if e != api.OK {
			t.Fatalf("%s: %d", m.Name, e)
		}
		s += fmt.Sprintf("pack %d\n%s", len(one), one)
	}
	for _, d := range b.Dirs {
		made := 0
		if d.Made {
			made = 1
		}
		s += fmt.Sprintf("dir %d %d %s\n", made, d.Refs, d.Path)
	}
	return s + "end\n"
}

// full is a database with as many packages as may be, of as many entries.
func full() api.Base {
	var b api.Base
	for i := 0; i < 32; i++ {
		l := []api.Entry{dir("all")}
		for j := 0; j < 63; j++ {
			l = append(l, dir(fmt.Sprintf("all/%02d-%02d", i, j)))
		}
		b = owner.Add(b, pack(fmt.Sprintf("p%02d", i), l...), []string{"all"})
	}
	return b
}

// P19.1, P19.2, P19.4: databases that may be.
func TestRight(t *testing.T) {
	for i, b := range []api.Base{{}, sample(), {Packs: packs(pack("a"))}, {Packs: packs(pack("a", link("l")), pack("b", conf("c")))}, full()} {
		if !owner.Check(b) {
			t.Errorf("%d may not be", i)
		}
		want := text(t, b)
		if got, e := owner.Print(b); got != want || e != api.OK {
			t.Errorf("%d: %q, %d", i, got, e)
		}
		if got, e := owner.Parse(want); !same(got, b) || e != api.OK {
			t.Errorf("%d: %v, %d", i, got, e)
		}
	}
	if n := len(full().Dirs); n != 32*63+1 {
		t.Errorf("%d directories", n)
	}
	want := "base 1\npack 49\nholdall 1\nname a\nversion 1\ndir 0755 x\nlink x/y z\ndir 1 1 x\nend\n"
	b := owner.Add(api.Base{}, pack("a", dir("x"), link("x/y")), []string{"x"})
	if got, e := owner.Print(b); got != want || e != api.OK {
		t.Errorf("the example: %q, %d", got, e)
	}
	if got, _ := owner.Print(api.Base{}); got != "base 1\nend\n" {
		t.Errorf("of none: %q", got)
	}
}

// P19.1: databases that may not be.
func TestWrong(t *testing.T) {
	d := []api.Shared{shared("x", 1, false)}
	two := []api.Shared{shared("x", 2, false)}
	more := full()
	more.Packs = append(more.Packs, pack("q"))
	for name, b := range map[string]api.Base{
		"33 packages":          more,
		"a package":            {Packs: packs(pack("A"))},
		"an entry":             {Packs: packs(pack("a", file("x/y")))},
		"the second one":       {Packs: packs(pack("a"), pack("b", file("/")))},
		"no order":             {Packs: packs(pack("b"), pack("a"))},
		"a name twice":         {Packs: packs(pack("a"), pack("a"))},
		"a file twice":         {Packs: packs(pack("a", file("f")), pack("b", file("f")))},
		"a file and a link":    {Packs: packs(pack("a", file("f")), pack("b"), pack("c", link("f")))},
		"a config file twice":  {Packs: packs(pack("a", conf("f")), pack("b", conf("f")))},
		"a file, a directory":  {Packs: packs(pack("a", file("x")), pack("b", dir("x"))), Dirs: d},
		"a directory, a link":  {Packs: packs(pack("a", dir("x")), pack("b", link("x"))), Dirs: d},
		"dir, dir, file":       {Packs: packs(pack("a", dir("x")), pack("b", dir("x")), pack("c", file("x"))), Dirs: two},
		"a directory lacks":    {Packs: packs(pack("a", dir("x")))},
		"a directory too many": {Packs: packs(pack("a")), Dirs: d},
		"another directory":    {Packs: packs(pack("a", dir("y"))), Dirs: d},
		"a file as directory":  {Packs: packs(pack("a", file("x"))), Dirs: d},
		"too many refs":        {Packs: packs(pack("a", dir("x"))), Dirs: two},
		"too few refs":         {Packs: packs(pack("a", dir("x")), pack("b", dir("x"))), Dirs: d},
		"no refs":              {Packs: packs(pack("a", dir("x"))), Dirs: []api.Shared{shared("x", 0, true)}},
		"twice":                {Packs: packs(pack("a", dir("x"))), Dirs: append(d, d...)},
		"twice, one each":      {Packs: packs(pack("a", dir("x")), pack("b", dir("x"))), Dirs: append(d, d...)},
		"directories' order":   {Packs: packs(pack("a", dir("x"), dir("y"))), Dirs: []api.Shared{shared("y", 1, false), shared("x", 1, false)}},
		"refs far below":       {Packs: packs(pack("a", dir("x"))), Dirs: []api.Shared{shared("x", math.MinInt, true)}},
	} {
		if owner.Check(b) {
			t.Errorf("%s: it may be", name)
		}
		if s, e := owner.Print(b); s != "" || e != api.ErrArg {
			t.Errorf("%s: %d bytes, %d", name, len(s), e)
		}
	}
}

// P19.2: texts that are none.
func TestParseWrong(t *testing.T) {
	good := text(t, sample())
	one := "holdall 1\nname a\nversion 1\ndir 0755 x\nlink x/y z\n"
	a := "pack 49\n" + one
	two := "pack 27\nholdall 1\nname b\nversion 1\n"
	replace := func(old, new string) string { return strings.Replace(good, old, new, 1) }
	for _, s := range []string{
		"", "\n", "base 1", "base 1\n", "base 1\nend", "base 1\nend\n\n", "base 1\nend\nend\n", "base 2\nend\n", "base  1\nend\n", " base 1\nend\n", "base 1\n end\n", "base 1\nend \n", "base 1\n\nend\n", "Base 1\nend\n", "base 1\r\nend\r\n", "end\n", "base 1\nx\nend\n", "base 1\nend\nbase 1\nend\n",
		good[:len(good)-1], good + "x", good[1:], good[:len(good)/2], replace("dir 0 3 x", "dir 0 2 x"), replace("dir 0 3 x", "dir 0 03 x"), replace("dir 0 3 x", "dir 0 +3 x"), replace("dir 0 3 x", "dir 0 x"), replace("dir 0 3 x", "dir 2 3 x"), replace("dir 0 3 x", "dir 00 3 x"), replace("dir 0 3 x", "dir  3 x"), replace("dir 0 3 x", "dir 0 3  x"), replace("dir 0 3 x", "dir 0 3 x "), replace("dir 0 3 x", "dir 0 3 y"), replace("dir 0 3 x\n", ""), replace("dir 0 3 x\n", "dir 0 3 x\ndir 0 3 x\n"), replace("dir 0 3 x", "dir 0 99999999999999999999 x"),
		"base 1\n" + a + "end\n", "base 1\ndir 1 1 x\n" + a + "end\n", "base 1\ndir 1 1 x\nend\n", "base 1\n" + a + two + "dir 1 1 x\nend", "base 1\n" + two + a + "dir 1 1 x\nend\n", "base 1\n" + two + two + "end\n", "base 1\n" + a + "dir 1 1 x\nend\n ",
		"base 1\npack 48\n" + one + "dir 1 1 x\nend\n", "base 1\npack 50\n" + one + "dir 1 1 x\nend\n", "base 1\npack 049\n" + one + "dir 1 1 x\nend\n", "base 1\npack +49\n" + one + "dir 1 1 x\nend\n", "base 1\npack  49\n" + one + "dir 1 1 x\nend\n", "base 1\npack 49 \n" + one + "dir 1 1 x\nend\n", "base 1\npack\n" + one + "dir 1 1 x\nend\n", "base 1\npack x\n" + one + "dir 1 1 x\nend\n", "base 1\npack -1\n" + one + "dir 1 1 x\nend\n", "base 1\npack 0\nend\n", "base 1\npack 99999999999999999999\nend\n", "base 1\npack 9223372036854775807\nend\n", "base 1\npack 5000\n" + one + "dir 1 1 x\nend\n", "base 1\npack 49\n" + strings.Replace(one, "a", "A", 1) + "dir 1 1 x\nend\n", "base 1\npack 49\n" + one,
		"base 1\n" + strings.Repeat(two, 5000) + "end\n", "base 1\n" + strings.Repeat("dir 1 1 x\n", 5000) + "end\n",
	} {
		if b, e := owner.Parse(s); e != api.ErrForm || !same(b, api.Base{}) {
			t.Errorf("%.100q: %v, %d", s, b, e)
		}
	}
	if b, e := owner.Parse("base 1\n" + a + two + "dir 1 1 x\nend\n"); e != api.OK || len(b.Packs) != 2 {
		t.Errorf("two packages: %v, %d", b, e)
	}
	more := full()
	more.Packs = append(more.Packs, pack("q"))
	if _, e := owner.Parse(text(t, more)); e != api.ErrForm {
		t.Errorf("33 packages: %d", e)
	}
}

// P19.2: whatever byte is turned, what is read is written as it was.
func TestTurned(t *testing.T) {
	good := text(t, sample())
	for i := 0; i < len(good); i++ {
		for _, by := range []byte{1, 2, 4, 16, good[i] ^ '\n', good[i] ^ ' '} {
			s := good[:i] + string([]byte{good[i] ^ by}) + good[i+1:]
			b, e := owner.Parse(s)
			if e != api.OK {
				continue
			}
			if got, e := owner.Print(b); got != s || e != api.OK || !owner.Check(b) {
				t.Errorf("%q was read as %q", s, got)
			}
		}
	}
}

// P19.3: where things come to stand, of any database.
func TestAdd(t *testing.T) {
	b := api.Base{Packs: packs(pack("b"), pack("d"), pack("d", file("x")), pack("a")), Dirs: []api.Shared{shared("m", 5, true), shared("k", -1, false), shared("m", 7, false), shared("x", math.MaxInt, false)}}
	for name, at := range map[string]int{"a": 0, "b": 0, "c": 1, "d": 1, "e": 4, "": 0} {
		got := owner.Add(b, pack(name, link("n")), nil)
		if len(got.Packs) != 5 || !same(got.Packs[at], pack(name, link("n"))) {
			t.Errorf("%q: %v", name, got.Packs)
		}
		rest := append(append(packs(), got.Packs[:at]...), got.Packs[at+1:]...)
		if !same(rest, b.Packs) || !same(got.Dirs, b.Dirs) {
			t.Errorf("%q: the others", name)
		}
	}
	got := owner.Add(b, pack("q", dir("m"), file("l"), dir("l"), dir("z"), dir("l"), dir("k"), dir("x"), dir("a"), conf("c"), link("j")), []string{"z", "m", "j", "l"})
	want := []api.Shared{shared("a", 1, false), shared("l", 2, true), shared("m", 6, true), shared("k", 0, false), shared("m", 7, false), shared("x", math.MinInt, false), shared("z", 1, true)}
	if !same(got.Dirs, want) {
		t.Errorf("%v", got.Dirs)
	}
	if got := owner.Add(api.Base{}, pack("a"), []string{"x"}); !same(got, api.Base{Packs: packs(pack("a"))}) {
		t.Errorf("%v", got)
	}
}

// P19.3
func TestWithout(t *testing.T) {
	b := api.Base{
		Packs: packs(pack("b", dir("m"), dir("n"), file("o"), file("p"), dir("p"), dir("q"), file("q")), pack("a", dir("m")), pack("b", dir("r")), pack("c", dir("m"))),
		Dirs:  []api.Shared{shared("q", 1, true), shared("m", 2, true), shared("n", 1, false), shared("m", 1, false), shared("o", 1, true), shared("p", 1, true), shared("r", 1, true), shared("s", 4, true)},
	}
	got := owner.Without(b, "b")
	want := api.Base{Packs: packs(b.Packs[1], b.Packs[3]), Dirs: []api.Shared{shared("m", 1, true), shared("o", 1, true), shared("p", 1, true), shared("r", 1, true), shared("s", 4, true)}}
	if !same(got, want) {
		t.Errorf("%v, want %v", got, want)
	}
	if got := owner.Without(b, "x"); !same(got, b) {
		t.Errorf("of one that isn't there: %v", got)
	}
	if got := owner.Without(api.Base{}, ""); !same(got, api.Base{}) {
		t.Errorf("of none: %v", got)
	}
	b = sample()
	got = owner.Without(b, "a")
	if want := []api.Shared{shared("w", 1, true), shared("x", 2, false), shared("x/d", 1, true)}; !same(got.Dirs, want) || !same(got.Packs, b.Packs[1:]) || !owner.Check(got) {
		t.Errorf("%v", got)
	}
}

// P19.4: a package that comes and goes leaves the database as it was.
func TestBack(t *testing.T) {
	b := sample()
	for _, m := range []api.Manifest{pack("aa"), pack("z", dir("x"), file("x/z")), pack("0", dir("q"), dir("q/r"), link("q/s"), dir("x"), dir("x/d"))} {
		with := owner.Add(b, m, []string{"q"})
		if m.Name != "0" && !owner.Check(with) {
			t.Errorf("%s: the database may not be", m.Name)
		}
		if got := owner.Without(with, m.Name); !same(got, b) {
			t.Errorf("%s: %v", m.Name, got)
		}
	}
}

// What is answered is new memory, all its lists; what is handed in stays.
func TestNewMemory(t *testing.T) {
	b := sample()
	room := func(b *api.Base) {
		b.Packs = append(make([]api.Manifest, 0, 20), b.Packs...)
		b.Dirs = append(make([]api.Shared, 0, 20), b.Dirs...)
	}
	room(&b)
	m := pack("ab", dir("v"), dir("x"))
	spoil := func(x api.Base) {
		for i := range x.Packs {
			p := x.Packs[i]
			for j := range p.Entries {
				p.Entries[j] = api.Entry{}
			}
			for j := range p.Needs {
				p.Needs[j] = api.Rule{}
			}
			for j := range p.Clashes {
				p.Clashes[j] = api.Rule{}
			}
			x.Packs[i] = api.Manifest{}
		}
		for i := range x.Dirs {
			x.Dirs[i] = api.Shared{}
		}
	}
	spoil(owner.Add(b, m, nil))
	spoil(owner.Without(b, "b"))
	spoil(owner.Without(b, "none"))
	f, _ := owner.Find(b, "a")
	spoil(api.Base{Packs: packs(f)})
	if !same(b, sample()) || !same(m, pack("ab", dir("v"), dir("x"))) || b.Packs[:5][4].Name != "" || b.Dirs[:4][3].Path != "" {
		t.Error("something was changed that was handed in")
	}
}
