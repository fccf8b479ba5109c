package act_test

import (
	"crypto/sha256"
	"math"
	"slices"
	"strings"
	"testing"

	"holdall/act"
	"holdall/api"
	"holdall/tree"
)

func sum(s string) string {
	h := sha256.Sum256([]byte(s))
	return string(h[:])
}

func fresh(t *testing.T) []string {
	t.Helper()
	img, e := tree.Make(64)
	if e != api.OK {
		t.Fatalf("Make: %d", e)
	}
	return img
}

func mkdir(where string) api.Step {
	return api.Step{Kind: api.StepMkdir, Path: where, Mode: 0755, Uid: 1, Gid: 2, Time: 3}
}
func write(where, data string) api.Step {
	return api.Step{Kind: api.StepWrite, Path: where, Mode: 0644, Uid: 4, Gid: 5, Time: 6, Data: data}
}
func link(where, target string) api.Step {
	return api.Step{Kind: api.StepLink, Path: where, Mode: 0777, Target: target}
}
func cut(where string) api.Step   { return api.Step{Kind: api.StepCut, Path: where} }
func rmdir(where string) api.Step { return api.Step{Kind: api.StepRmdir, Path: where} }
func rename(where, to string) api.Step {
	return api.Step{Kind: api.StepRename, Path: where, Target: to}
}

func all(t *testing.T, img []string, l ...api.Step) []string {
	t.Helper()
	out, e := act.All(img, l)
	if e != api.OK {
		t.Fatalf("All: %d", e)
	}
	return out
}

// P23.1: each kind is layer 18's call.
func TestOne(t *testing.T) {
	img := all(t, fresh(t), mkdir("d"), mkdir("d/e"), write("f", "1"), link("l", "t"))
	l := []api.Step{mkdir("n"), mkdir("f"), mkdir("n/n"), mkdir("/"), write("n", "2"), write("f", "2"), write("d", "2"), write("l", "2"), write("n", strings.Repeat("x", 14593)), link("n", "t"), link("n", ""), link("f", "t"), cut("f"), cut("l"), cut("d"), cut("n"), cut("f/n"), cut(""), rename("f", "n"), rename("l", "d/n"), rename("d", "n"), rename("f", "l"), rename("n", "m"), rename("f", "n/m"), {Kind: api.StepMkdir, Path: "n", Mode: -1}, {Kind: api.StepWrite, Path: "n", Uid: -1}}
	for _, s := range l {
		var want []string
		var we api.Errno
		switch s.Kind {
		case 1:
			want, we = tree.Mkdir(img, s)
		case 2:
			want, we = tree.Write(img, s)
		case 3:
			want, we = tree.Link(img, s)
		case 4:
			want, we = tree.Cut(img, s.Path)
		case 6:
			want, we = tree.Rename(img, s.Path, s.Target)
		}
		got, e := act.One(img, s)
		if e != we || !slices.Equal(got, want) {
			t.Errorf("%v: %d, want %d", s, e, we)
		}
		if got, e := act.All(img, []api.Step{s}); e != we || !slices.Equal(got, want) {
			t.Errorf("%v, as a list: %d, want %d", s, e, we)
		}
	}
	for _, kind := range []int{0, -1, 7, math.MaxInt, math.MinInt} {
		if got, e := act.One(img, api.Step{Kind: kind, Path: "f"}); e != api.ErrArg || !slices.Equal(got, img) {
			t.Errorf("kind %d: %d", kind, e)
		}
	}
	if got, e := act.One(nil, mkdir("n")); e != api.ErrBroken || len(got) != 0 {
		t.Errorf("no tree: %d", e)
	}
}

// P23.1: directories that don't go, and what is an error all the same.
func TestRmdir(t *testing.T) {
	img := all(t, fresh(t), mkdir("d"), mkdir("d/e"), write("f", "1"), link("l", "d"))
	want, _ := tree.Rmdir(img, "d/e")
	if got, e := act.One(img, rmdir("d/e")); e != api.OK || !slices.Equal(got, want) || slices.Equal(got, img) {
		t.Errorf("an empty one: %d", e)
	}
	for _, where := range []string{"d", "n", "d/n", "n/n", "f", "l", "l/e", "f/n", "", "/d", "d/..", "a b"} {
		if got, e := act.One(img, rmdir(where)); e != api.OK || !slices.Equal(got, img) {
			t.Errorf("%q: %d", where, e)
		}
	}
	if got, e := act.One(img, rmdir(strings.Repeat("x", 201))); e != api.ErrLong || !slices.Equal(got, img) {
		t.Errorf("a long path: %d", e)
	}
	if got, e := act.One(img[:15], rmdir("d")); e != api.ErrBroken || !slices.Equal(got, img[:15]) {
		t.Errorf("a broken tree: %d", e)
	}
}

// P23.1, P23.2: the examples.
func TestExamples(t *testing.T) {
	img := fresh(t)
	got, e := act.All(img, []api.Step{mkdir("a"), write("a/b", "x"), rmdir("a")})
	if e != api.OK || len(act.Changes(img, got)) != 6 {
		t.Errorf("%d changes, %d", len(act.Changes(img, got)), e)
	}
	if l, _ := tree.List(got); len(l) != 2 {
		t.Errorf("%v", l)
	}
	again, e := act.All(got, []api.Step{cut("a/b"), cut("a/c")})
	if e != api.ErrNone || !slices.Equal(again, got) {
		t.Errorf("%d", e)
	}
}

// P23.1: beside the first error the tree is as it was.
func TestAll(t *testing.T) {
	img := fresh(t)
	if got, e := act.All(img, nil); e != api.OK || !slices.Equal(got, img) {
		t.Errorf("none: %d", e)
	}
	for i, c := range []struct {
		l []api.Step
		e api.Errno
	}{
		{[]api.Step{mkdir("a"), mkdir("a"), cut("n")}, api.ErrExists}, {[]api.Step{mkdir("a"), cut("n"), mkdir("a")}, api.ErrNone}, {[]api.Step{write("a", "x"), {Kind: 9}}, api.ErrArg}, {[]api.Step{{Kind: 9}, mkdir("/")}, api.ErrArg}, {[]api.Step{mkdir("a"), write("a/b", strings.Repeat("x", 60*256))}, api.ErrLong}, {[]api.Step{mkdir("a"), write("a/b", strings.Repeat("x", 45*256)), write("c", strings.Repeat("x", 9*256))}, api.ErrSpace},
	} {
		if got, e := act.All(img, c.l); e != c.e || !slices.Equal(got, img) {
			t.Errorf("%d: %d, want %d", i, e, c.e)
		}
	}
}

// P23.2
func TestChanges(t *testing.T) {
	for i, c := range []struct {
		a, b []string
		want []api.Write
	}{
		{nil, nil, nil}, {nil, []string{"x"}, nil}, {[]string{"x"}, nil, nil}, {[]string{"x"}, []string{"x", "y"}, nil}, {[]string{"x", "y", "z"}, []string{"y", "y"}, []api.Write{{At: 0, Data: "y"}}}, {[]string{"a", "b", "c", ""}, []string{"A", "b", "", "d"}, []api.Write{{At: 0, Data: "A"}, {At: 2, Data: ""}, {At: 3, Data: "d"}}}, {[]string{"x", "y"}, []string{"x", "y"}, nil},
	} {
		if got := act.Changes(c.a, c.b); !slices.Equal(got, c.want) {
			t.Errorf("%d: %v", i, got)
		}
	}
	img := fresh(t)
	next := all(t, img, mkdir("a"), write("f", strings.Repeat("x", 1000)))
	back := slices.Clone(img)
	l := act.Changes(img, next)
	for i, w := range l {
		if i > 0 && l[i-1].At >= w.At {
			t.Error("the places don't rise")
		}
		back[w.At] = w.Data
	}
	if !slices.Equal(back, next) || len(act.Changes(next, next)) != 0 {
		t.Error("changes, put in, don't come to the tree")
	}
}

// P23.3: steps in two goes come to what they come to in one.
func TestTwoGoes(t *testing.T) {
	l := []api.Step{mkdir("a"), write("a/f", "1"), mkdir("b"), link("b/l", "t"), rename("a/f", "b/f"), rmdir("b"), rmdir("a"), write("g", strings.Repeat("y", 700)), write("g", "z"), cut("b/l"), cut("b/f"), rmdir("b")}
	img := fresh(t)
	want := all(t, img, l...)
	for i := range l {
		if got := all(t, all(t, img, l[:i]...), l[i:]...); !slices.Equal(got, want) {
			t.Errorf("in two goes at %d", i)
		}
	}
}

// P23.4
func TestAudit(t *testing.T) {
	entry := func(kind int, where, data, target string) api.Entry {
		x := api.Entry{Kind: kind, Mode: 0600, Path: where, Target: target}
		if kind == api.KindFile || kind == api.KindConf {
			x.Sum = sum(data)
		}
		return x
	}
	l := []api.Manifest{
		{Name: "b", Entries: []api.Entry{entry(api.KindDir, "d", "", ""), entry(api.KindFile, "d/f", "1", ""), entry(api.KindConf, "d/c", "2", ""), entry(api.KindLink, "d/l", "", "t")}},
		{Name: "a", Entries: []api.Entry{entry(api.KindFile, "z", "3", ""), entry(api.KindFile, "y", "4", ""), entry(api.KindFile, "z", "5", "")}},
	}
	well := []api.Stat{{Path: "d", Kind: api.KindDir, Mode: 1, Data: "x"}, {Path: "d/f", Kind: api.KindFile, Data: "1"}, {Path: "d/c", Kind: api.KindFile, Data: "2"}, {Path: "d/l", Kind: api.KindLink, Data: "t"}, {Path: "z", Kind: api.KindFile, Data: "3"}, {Path: "y", Kind: api.KindFile, Data: "4"}, {Path: "u", Kind: api.KindFile}}
	f := func(where string, what int) api.Finding { return api.Finding{Path: where, What: what} }
	last := f("z", 3)
	for name, c := range map[string]struct {
		change func(l []api.Stat) []api.Stat
		want   []api.Finding
	}{
		"all is well":           {func(l []api.Stat) []api.Stat { return l }, nil},
		"a file isn't there":    {func(l []api.Stat) []api.Stat { return slices.Delete(l, 1, 2) }, []api.Finding{f("d/f", 1)}},
		"a directory isn't":     {func(l []api.Stat) []api.Stat { return l[1:] }, []api.Finding{f("d", 1)}},
		"a file's bytes":        {func(l []api.Stat) []api.Stat { l[1].Data = "x"; return l }, []api.Finding{f("d/f", 3)}},
		"a config file's bytes": {func(l []api.Stat) []api.Stat { l[2].Data = ""; return l }, []api.Finding{f("d/c", 3)}},
		"a link's target":       {func(l []api.Stat) []api.Stat { l[3].Data = "T"; return l }, []api.Finding{f("d/l", 3)}},
		"a link as a file":      {func(l []api.Stat) []api.Stat { l[3].Kind = api.KindFile; return l }, []api.Finding{f("d/l", 2)}},
		"a file as a link":      {func(l []api.Stat) []api.Stat { l[1].Kind = api.KindLink; return l }, []api.Finding{f("d/f", 2)}},
		"a config file as dir":  {func(l []api.Stat) []api.Stat { l[2].Kind = api.KindDir; return l }, []api.Finding{f("d/c", 2)}},
		"a config file as 5":    {func(l []api.Stat) []api.Stat { l[2].Kind = api.KindConf; return l }, []api.Finding{f("d/c", 2)}},
		"a directory as a file": {func(l []api.Stat) []api.Stat { l[0].Kind = api.KindFile; return l }, []api.Finding{f("d", 2)}},
		"the first counts":      {func(l []api.Stat) []api.Stat { return append(l, api.Stat{Path: "d/f", Kind: api.KindDir}) }, nil},
		"the first counts, too": {func(l []api.Stat) []api.Stat { return append([]api.Stat{{Path: "d/f", Kind: api.KindDir}}, l...) }, []api.Finding{f("d/f", 2)}},
		"nothing is there":      {func(l []api.Stat) []api.Stat { return nil }, []api.Finding{f("d", 1), f("d/f", 1), f("d/c", 1), f("d/l", 1), f("z", 1), f("y", 1), f("z", 1)}},
	} {
		got := act.Audit(l, c.change(slices.Clone(well)))
		want := c.want
		if name != "nothing is there" {
			want = append(slices.Clone(want), last)
		}
		if !slices.Equal(got, want) {
			t.Errorf("%s: %v, want %v", name, got, want)
		}
	}
	if got := act.Audit(nil, well); len(got) != 0 {
		t.Errorf("no packages: %v", got)
	}
}

// What is handed in isn't changed.
func TestUnchanged(t *testing.T) {
	img := all(t, fresh(t), mkdir("a"))
	was := slices.Clone(img)
	l := []api.Step{write("a/f", "1"), rmdir("n")}
	steps := slices.Clone(l)
	act.All(img, l)
	act.One(img, l[0])
	if !slices.Equal(img, was) || !slices.Equal(l, steps) {
		t.Error("something was changed")
	}
}
