package manifest_test

import (
	"fmt"
	"math"
	"reflect"
	"strings"
	"testing"

	"holdall/api"
	"holdall/manifest"
)

// same tells whether two manifests are, lists that hold nothing alike.
func same(a, b api.Manifest) bool {
	return a.Name == b.Name && a.Version == b.Version && fmt.Sprint(a.Needs, a.Clashes) == fmt.Sprint(b.Needs, b.Clashes) && len(a.Entries) == len(b.Entries) && (len(a.Entries) == 0 || reflect.DeepEqual(a.Entries, b.Entries))
}

var sum = strings.Repeat("\xab", 32)

func sample() api.Manifest {
	return api.Manifest{
		Name: "a", Version: "1.0~rc1",
		Needs:   []api.Rule{{Name: "b", Op: api.OpGe, Version: "2"}, {Name: "c"}, {Name: "b", Op: api.OpLt, Version: "3"}},
		Clashes: []api.Rule{{Name: "d", Op: api.OpEq, Version: "1"}, {Name: "e", Op: api.OpLe, Version: "1"}, {Name: "f", Op: api.OpGt, Version: "1"}, {Name: "a"}},
		Entries: []api.Entry{
			{Kind: api.KindFile, Mode: 0644, Sum: sum, Path: "A"},
			{Kind: api.KindDir, Mode: 07755, Path: "x"},
			{Kind: api.KindLink, Path: "x.y", Target: "../z//"},
			{Kind: api.KindConf, Mode: 0, Sum: strings.Repeat("\x00", 31) + "\x0f", Path: "x/conf"},
			{Kind: api.KindDir, Mode: 0700, Path: "x/d"},
			{Kind: api.KindFile, Mode: 0444, Sum: sum, Path: "x/d/é"},
		},
	}
}

var text = "holdall 1\nname a\nversion 1.0~rc1\nneeds b >= 2\nneeds c\nneeds b < 3\nclashes d = 1\nclashes e <= 1\nclashes f > 1\nclashes a\n" +
	"file 0644 " + strings.Repeat("ab", 32) + " A\ndir 7755 x\nlink x.y ../z//\nconf 0000 " + strings.Repeat("00", 31) + "0f x/conf\ndir 0700 x/d\nfile 0444 " + strings.Repeat("ab", 32) + " x/d/é\n"

// P13.1
func TestName(t *testing.T) {
	for _, s := range []string{"a", "z", "a0", "a-b+c.d_e", "lib64", strings.Repeat("a", 24)} {
		if !manifest.Name(s) {
			t.Errorf("%q is no name", s)
		}
	}
	for _, s := range []string{"", "0a", "A", "aB", "-a", ".a", "_a", "+a", "a b", "a/b", "a~", "a\n", "é", "aé", "a\xff", "a=", "a:", "a`", "a{", strings.Repeat("a", 25), strings.Repeat("a", 3000)} {
		if manifest.Name(s) {
			t.Errorf("%q is a name", s)
		}
	}
	for b := 0; b < 256; b++ {
		s := string([]byte{byte(b)})
		first := s >= "a" && s <= "z"
		if manifest.Name(s) != first || manifest.Name("a"+s) != (first || strings.Contains("0123456789-+._", s)) {
			t.Errorf("byte %d", b)
		}
	}
}

// P13.1
func TestRule(t *testing.T) {
	for _, r := range []api.Rule{{Name: "a"}, {Name: "a", Op: api.OpEq, Version: "1"}, {Name: "a", Op: api.OpLt, Version: "1"}, {Name: "a", Op: api.OpLe, Version: "1~"}, {Name: "a", Op: api.OpGt, Version: "1"}, {Name: "a", Op: api.OpGe, Version: "a"}} {
		if !manifest.Rule(r) {
			t.Errorf("%v may not be", r)
		}
	}
	for _, r := range []api.Rule{{}, {Name: "A"}, {Name: "a", Version: "1"}, {Name: "a", Op: api.OpEq}, {Name: "a", Op: api.OpGe, Version: "~1"}, {Name: "a", Op: 6, Version: "1"}, {Name: "a", Op: -1, Version: "1"}, {Name: "a", Op: -1}, {Name: "a", Op: 6}, {Name: "a", Op: math.MaxInt, Version: "1"}, {Name: "", Op: api.OpEq, Version: "1"}, {Name: "a", Op: api.OpEq, Version: strings.Repeat("1", 25)}} {
		if manifest.Rule(r) {
			t.Errorf("%v may be", r)
		}
	}
}

// P13.1: errors, and which comes first.
func TestEntry(t *testing.T) {
	long := strings.Repeat("a", 201)
	for i, c := range []struct {
		x api.Entry
		e api.Errno
	}{
		{api.Entry{Kind: api.KindFile, Sum: sum, Path: "a"}, api.OK}, {api.Entry{Kind: api.KindConf, Mode: 07777, Sum: sum, Path: "a/b"}, api.OK}, {api.Entry{Kind: api.KindDir, Mode: 07777, Path: "a"}, api.OK}, {api.Entry{Kind: api.KindLink, Path: "a", Target: "/"}, api.OK}, {api.Entry{Kind: api.KindDir, Path: "a/.holdall"}, api.OK}, {api.Entry{Kind: api.KindDir, Path: ".holdallx"}, api.OK},
		{api.Entry{}, api.ErrPath}, {api.Entry{Kind: 9, Path: "/a"}, api.ErrPath}, {api.Entry{Kind: 9, Path: "a/../b"}, api.ErrPath}, {api.Entry{Kind: 9, Path: ".holdall/.."}, api.ErrPath}, {api.Entry{Kind: 9, Path: long}, api.ErrLong}, {api.Entry{Kind: 2, Path: strings.Repeat("a/", 16) + "a"}, api.ErrLong},
		{api.Entry{Kind: api.KindDir, Path: ".holdall"}, api.ErrReserved}, {api.Entry{Kind: 9, Mode: -1, Path: ".holdall/x"}, api.ErrReserved},
		{api.Entry{Path: "a"}, api.ErrArg}, {api.Entry{Kind: api.KindHard, Path: "a", Target: "b"}, api.ErrArg}, {api.Entry{Kind: 6, Path: "a"}, api.ErrArg}, {api.Entry{Kind: -1, Path: "a"}, api.ErrArg}, {api.Entry{Kind: math.MaxInt, Path: "a"}, api.ErrArg},
		{api.Entry{Kind: api.KindFile, Mode: 010000, Sum: sum, Path: "a"}, api.ErrArg}, {api.Entry{Kind: api.KindDir, Mode: -1, Path: "a"}, api.ErrArg}, {api.Entry{Kind: api.KindLink, Mode: 1, Path: "a", Target: "b"}, api.ErrArg}, {api.Entry{Kind: api.KindLink, Mode: 0777, Path: "a", Target: " "}, api.ErrArg},
		{api.Entry{Kind: api.KindFile, Path: "a"}, api.ErrArg}, {api.Entry{Kind: api.KindConf, Sum: sum[1:], Path: "a"}, api.ErrArg}, {api.Entry{Kind: api.KindFile, Sum: sum + "x", Path: "a"}, api.ErrArg}, {api.Entry{Kind: api.KindDir, Sum: sum, Path: "a"}, api.ErrArg}, {api.Entry{Kind: api.KindLink, Sum: sum, Path: "a", Target: "b"}, api.ErrArg}, {api.Entry{Kind: api.KindLink, Sum: "x", Path: "a", Target: ""}, api.ErrArg},
		{api.Entry{Kind: api.KindLink, Path: "a"}, api.ErrPath}, {api.Entry{Kind: api.KindLink, Path: "a", Target: "b c"}, api.ErrPath}, {api.Entry{Kind: api.KindLink, Path: "a", Target: long}, api.ErrPath},
		{api.Entry{Kind: api.KindFile, Sum: sum, Path: "a", Target: "b"}, api.ErrArg}, {api.Entry{Kind: api.KindDir, Path: "a", Target: "b"}, api.ErrArg}, {api.Entry{Kind: api.KindConf, Sum: sum, Path: "a", Target: " "}, api.ErrArg},
	} {
		if got := manifest.Entry(c.x); got != c.e {
			t.Errorf("%d: %d, want %d", i, got, c.e)
		}
		m := api.Manifest{Name: "a", Version: "1", Entries: []api.Entry{c.x}}
		want := c.e
		if i == 1 || i == 4 {
			want = api.ErrPath
		}
		if got := manifest.Check(m); got != want {
			t.Errorf("%d, checked: %d, want %d", i, got, want)
		}
	}
}

func dirs(l ...string) []api.Entry {
	var out []api.Entry
	for _, s := range l {
		out = append(out, api.Entry{Kind: api.KindDir, Mode: 0755, Path: s})
	}
	return out
}

// P13.1: errors, and which comes first.
func TestCheck(t *testing.T) {
	rules := func(n int) []api.Rule {
		var l []api.Rule
		for i := 0; i < n; i++ {
			l = append(l, api.Rule{Name: "b"})
		}
		return l
	}
	var many []api.Entry
	for i := 0; i < 65; i++ {
		many = append(many, dirs(fmt.Sprintf("d%02d", i))...)
	}
	bad := []api.Rule{{Name: "B"}}
	file := api.Entry{Kind: api.KindFile, Sum: sum, Path: "x"}
	under := api.Entry{Kind: api.KindFile, Sum: sum, Path: "x/y"}
	wrong := append(dirs("a"), api.Entry{Kind: 9, Path: "b"})
	for i, c := range []struct {
		m api.Manifest
		e api.Errno
	}{
		{sample(), api.OK}, {api.Manifest{Name: "a", Version: "1"}, api.OK},
		{api.Manifest{}, api.ErrArg}, {api.Manifest{Name: "A", Version: "1"}, api.ErrArg}, {api.Manifest{Name: "a"}, api.ErrArg}, {api.Manifest{Name: "a", Version: "~"}, api.ErrArg}, {api.Manifest{Name: "a", Version: " ", Needs: rules(17)}, api.ErrArg},
		{api.Manifest{Name: "a", Version: "1", Needs: rules(16), Clashes: rules(16), Entries: many[:64]}, api.OK},
		{api.Manifest{Name: "a", Version: "1", Needs: rules(17)}, api.ErrLong}, {api.Manifest{Name: "a", Version: "1", Clashes: rules(17)}, api.ErrLong}, {api.Manifest{Name: "a", Version: "1", Entries: many}, api.ErrLong}, {api.Manifest{Name: "a", Version: "1", Needs: bad, Entries: many}, api.ErrLong}, {api.Manifest{Name: "a", Version: "1", Needs: bad, Clashes: rules(17)}, api.ErrLong},
		{api.Manifest{Name: "a", Version: "1", Needs: bad}, api.ErrArg}, {api.Manifest{Name: "a", Version: "1", Clashes: bad}, api.ErrArg}, {api.Manifest{Name: "a", Version: "1", Needs: append(rules(2), bad...)}, api.ErrArg}, {api.Manifest{Name: "a", Version: "1", Clashes: bad, Entries: dirs("/")}, api.ErrArg},
		{api.Manifest{Name: "a", Version: "1", Entries: dirs("/")}, api.ErrPath}, {api.Manifest{Name: "a", Version: "1", Entries: dirs("b", ".holdall")}, api.ErrReserved}, {api.Manifest{Name: "a", Version: "1", Entries: wrong}, api.ErrArg},
		{api.Manifest{Name: "a", Version: "1", Entries: dirs("b", "a")}, api.ErrArg}, {api.Manifest{Name: "a", Version: "1", Entries: dirs("a", "a")}, api.ErrArg}, {api.Manifest{Name: "a", Version: "1", Entries: dirs("a", "a.b", "a/b")}, api.OK}, {api.Manifest{Name: "a", Version: "1", Entries: dirs("a", "a/b", "a.b")}, api.ErrArg}, {api.Manifest{Name: "a", Version: "1", Entries: dirs("a", "B")}, api.ErrArg},
		{api.Manifest{Name: "a", Version: "1", Entries: dirs("a/b")}, api.ErrPath}, {api.Manifest{Name: "a", Version: "1", Entries: dirs("a", "a/b/c")}, api.ErrPath}, {api.Manifest{Name: "a", Version: "1", Entries: append([]api.Entry{file}, under)}, api.ErrPath}, {api.Manifest{Name: "a", Version: "1", Entries: append(dirs("x"), under)}, api.OK}, {api.Manifest{Name: "a", Version: "1", Entries: dirs("b", "a/b")}, api.ErrArg}, {api.Manifest{Name: "a", Version: "1", Entries: dirs("a", "ab/c")}, api.ErrPath},
		{api.Manifest{Name: "a", Version: "1", Entries: append(dirs("a/b"), dirs("/")...)}, api.ErrPath}, {api.Manifest{Name: "a", Version: "1", Entries: append(dirs("b", "a"), dirs(".holdall")...)}, api.ErrArg},
	} {
		if got := manifest.Check(c.m); got != c.e {
			t.Errorf("%d: %d, want %d", i, got, c.e)
		}
		s, e := manifest.Print(c.m)
		if e != c.e || (s == "") != (e != api.OK) {
			t.Errorf("%d, printed: %d bytes, %d", i, len(s), e)
		}
		if e != api.OK {
			continue
		}
		if m, e := manifest.Parse(s); e != api.OK || !same(m, c.m) {
			t.Errorf("%d, read again: %v, %d", i, m, e)
		}
	}
}

// P13.1, P13.2: a text's lines, one by one.
func TestText(t *testing.T) {
	if got, e := manifest.Print(sample()); got != text || e != api.OK {
		t.Errorf("%q, %d", got, e)
	}
	if got, e := manifest.Parse(text); !same(got, sample()) || e != api.OK {
		t.Errorf("%v, %d", got, e)
	}
	m := api.Manifest{Name: "a", Version: "1", Needs: []api.Rule{{Name: "b", Op: api.OpGe, Version: "2"}}, Entries: append(dirs("x"), api.Entry{Kind: api.KindLink, Path: "x/y", Target: "z"})}
	want := "holdall 1\nname a\nversion 1\nneeds b >= 2\ndir 0755 x\nlink x/y z\n"
	if got, e := manifest.Print(m); got != want || e != api.OK {
		t.Errorf("the example: %q, %d", got, e)
	}
	if got, e := manifest.Parse(want); !same(got, m) || e != api.OK {
		t.Errorf("the example: %v, %d", got, e)
	}
}

const top = "holdall 1\nname a\nversion 1\n"

// P13.2: texts that aren't one.
func TestParseForm(t *testing.T) {
	sums := strings.Repeat("ab", 32)
	for _, s := range []string{
		"", "\n", "holdall 1", "holdall 1\n", "holdall 1\nname a\n", "holdall 1\nname a\nversion 1", "holdall 2\nname a\nversion 1\n", "holdall  1\nname a\nversion 1\n", "Holdall 1\nname a\nversion 1\n", "holdall 1 \nname a\nversion 1\n", "\nholdall 1\nname a\nversion 1\n", "holdall\nname a\nversion 1\n",
		"holdall 1\nversion 1\nname a\n", "holdall 1\nname\nversion 1\n", "holdall 1\nname a b\nversion 1\n", "holdall 1\nnames a\nversion 1\n", "holdall 1\nname a\nversion\n", "holdall 1\nname a\nversion 1 2\n", "holdall 1\nname a\nname a\nversion 1\n", "holdall 1\nname a\n\nversion 1\n", "holdall 1\r\nname a\r\nversion 1\r\n",
		top + "\n", top + "dir 0755 x", top + "x\n", top + "name a\n", top + "version 1\n", top + "holdall 1\n",
		top + "needs\n", top + "needs b >=\n", top + "needs b >= 2 3\n", top + "needs b => 2\n", top + "needs b == 2\n", top + "needs b 2 >=\n", top + "needs b  2\n", top + "needs b ! 2\n", top + "need b\n", top + "clashes\n", top + "clashes b <>\n", top + "clashes b <> 2\n", top + "Needs b\n",
		top + "clashes b\nneeds b\n", top + "dir 0755 x\nneeds b\n", top + "dir 0755 x\nclashes b\n", top + "needs b\ndir 0755 x\nclashes b\n", top + "needs b\nclashes b\nneeds b\n",
		top + "dir x\n", top + "dir 755 x\n", top + "dir 00755 x\n", top + "dir 0855 x\n", top + "dir 075x x\n", top + "dir  755 x\n", top + "dir 0755 x y\n", top + "dir 0755\n", top + "dir  x\n", top + "Dir 0755 x\n", top + "dir -755 x\n", top + "dir 0755 x \n", top + "dir 0755 a b\n",
		top + "link x\n", top + "link x y z\n", top + "link\n", top + "link 0777 x y\n",
		top + "file 0644 x\n", top + "file 0644 " + sums + "\n", top + "file 0644 " + sums + " x y\n", top + "file 644 " + sums + " x\n", top + "file 0644 " + strings.ToUpper(sums) + " x\n", top + "file 0644 " + sums[1:] + " x\n", top + "file 0644 " + sums + "0 x\n", top + "file 0644 0G x\n", top + "conf " + sums + " 0644 x\n", top + "conf 0649 " + sums + " x\n", top + "conf 0644 " + sums + "\n", top + "hard x y\n",
		top + "dir 0755 x\n\n", top + "dir 0755 x\ny", top + "\x00\n", top + " dir 0755 x\n", top + "dir\t0755\tx\n",
	} {
		m, e := manifest.Parse(s)
		if e != api.ErrForm || !same(m, api.Manifest{}) {
			t.Errorf("%q: %v, %d", s, m, e)
		}
	}
}

// P13.2: texts that say what may not be: Check's error.
func TestParseCheck(t *testing.T) {
	for s, want := range map[string]api.Errno{
		"holdall 1\nname A\nversion 1\n": api.ErrArg, "holdall 1\nname a\nversion ~\n": api.ErrArg,
		top + "needs B\n": api.ErrArg, top + "needs b = ~\n": api.ErrArg, top + "clashes b >= é\n": api.ErrArg,
		top + strings.Repeat("needs b\n", 17): api.ErrLong, top + strings.Repeat("clashes b\n", 17): api.ErrLong, top + strings.Repeat("dir 0755 x\n", 65): api.ErrLong,
		top + "dir 0755 /\n": api.ErrPath, top + "dir 0755 ../x\n": api.ErrPath, top + "dir 0755 .holdall\n": api.ErrReserved, top + "dir 0755 x\ndir 0755 x\n": api.ErrArg, top + "dir 0755 y\ndir 0755 x\n": api.ErrArg, top + "dir 0755 x/y\n": api.ErrPath,
		top + "file 0644 ab x\n": api.ErrArg, top + "conf 0644 " + strings.Repeat("ab", 33) + " x\n": api.ErrArg, top + "link x y\x01\n": api.ErrPath, top + "link x/y z\n": api.ErrPath, top + "dir 0755 x\xff\n": api.ErrPath,
		top + "needs b\nneeds b\nclashes b\nlink l /\n": api.OK,
	} {
		m, e := manifest.Parse(s)
		if e != want || e != api.OK && !same(m, api.Manifest{}) {
			t.Errorf("%q: %v, %d, want %d", s, m, e, want)
		}
	}
}

// P13.2: how long it may be.
func TestParseLong(t *testing.T) {
	s := strings.Repeat("x", 1<<20)
	if _, e := manifest.Parse(s); e != api.ErrForm {
		t.Errorf("2^20 bytes: %d", e)
	}
	if m, e := manifest.Parse(s + "\n"); e != api.ErrLong || !same(m, api.Manifest{}) {
		t.Errorf("one more: %d", e)
	}
	lines := top + strings.Repeat("needs b\n", (1<<20-len(top))/8)
	if _, e := manifest.Parse(lines); e != api.ErrLong {
		t.Errorf("many needs: %d", e)
	}
}

// P13.3: what is read is written as it was, whatever byte is turned; and it leads nowhere but into the tree.
func TestTurned(t *testing.T) {
	for i := 0; i < len(text); i++ {
		for _, by := range []byte{1, 2, 16, 32, 128, text[i] ^ '.', text[i] ^ '/', text[i] ^ ' ', text[i] ^ '\n'} {
			s := text[:i] + string([]byte{text[i] ^ by}) + text[i+1:]
			m, e := manifest.Parse(s)
			if e != api.OK {
				if !same(m, api.Manifest{}) {
					t.Errorf("byte %d: a manifest beside an error", i)
				}
				continue
			}
			if got, e := manifest.Print(m); got != s || e != api.OK {
				t.Errorf("byte %d: %q was read as %q", i, s, got)
			}
			for _, x := range m.Entries {
				if strings.HasPrefix(x.Path, "/") || strings.Contains("/"+x.Path+"/", "/../") || strings.HasPrefix(x.Path+"/", ".holdall/") {
					t.Errorf("byte %d: %q", i, x.Path)
				}
			}
		}
	}
}

// What is handed in isn't changed, its spare room neither.
func TestUnchanged(t *testing.T) {
	m := sample()
	m.Needs = append(make([]api.Rule, 0, 9), m.Needs...)
	manifest.Print(m)
	if !same(m, sample()) || m.Needs[:9][4] != (api.Rule{}) {
		t.Error("the manifest was changed")
	}
}
