package script_test

import (
	"crypto/ed25519"
	"crypto/sha256"
	"encoding/hex"
	"fmt"
	"math/rand"
	"slices"
	"strings"
	"testing"

	"holdall/api"
	"holdall/parcel"
	"holdall/script"
)

func seedOf(b byte) string { return strings.Repeat(string([]byte{b}), 32) }

func keyOf(b byte) string {
	return hex.EncodeToString(ed25519.NewKeyFromSeed([]byte(seedOf(b))).Public().(ed25519.PublicKey))
}

// pack is a package of files, links and directories in signs: a path and a LF and what stands there (@ a link, / a directory, ! a config file).
func pack(name, version string, rules []api.Rule, l ...string) string {
	m := api.Manifest{Name: name, Version: version, Needs: rules}
	var members []api.Member
	for _, s := range l {
		where, data, _ := strings.Cut(s, "\n")
		x, y := api.Entry{Kind: api.KindFile, Mode: 0644, Path: where}, api.Member{Kind: api.KindFile, Mode: 0644, Path: where}
		switch data[:1] {
		case "/":
			x.Kind, y.Kind = api.KindDir, api.KindDir
		case "@":
			x.Kind, x.Mode, x.Target, y.Kind, y.Target = api.KindLink, 0, data[1:], api.KindLink, data[1:]
		default:
			sum := sha256.Sum256([]byte(data[1:]))
			x.Sum, y.Data = string(sum[:]), data[1:]
			if data[0] == '!' {
				x.Kind = api.KindConf
			}
		}
		m.Entries, members = append(m.Entries, x), append(members, y)
	}
	s, e := parcel.Build(seedOf(1), m, members)
	if e != api.OK {
		panic(e)
	}
	return hex.EncodeToString([]byte(s))
}

// talk says lines, each with the answer that it must have (LFs as /).
func talk(t *testing.T, c *script.Console, l ...[2]string) {
	t.Helper()
	for i, x := range l {
		want := strings.ReplaceAll(x[1], " / ", "\n") + "\n"
		if got := c.Do(x[0]); got != want {
			t.Errorf("line %d, %.60q: %q, want %q", i, x[0], got, want)
		}
	}
}

func same(t *testing.T, c *script.Console, answer string, lines ...string) {
	t.Helper()
	for _, s := range lines {
		if got := c.Do(s); got != answer+"\n" {
			t.Errorf("%.60q: %q, want %q", s, got, answer)
		}
	}
}

// P25.1: the example, line by line and as a text.
func TestExample(t *testing.T) {
	c := script.Open()
	talk(t, c, [2]string{"new 100", "ok"}, [2]string{"mkdir etc 0755", "ok"}, [2]string{"write etc/a 0644 6869", "ok"}, [2]string{"tree", "dir 0755 etc / file 0644 6869 etc/a / ok"}, [2]string{"owner etc/a", "error 5"}, [2]string{"nonsense", "error 2"})
	got, e := script.Run("new 100\nmkdir etc 0755\nwrite etc/a 0644 6869\ntree\nowner etc/a\nnonsense")
	if e != api.OK || got != "ok\nok\nok\ndir 0755 etc\nfile 0644 6869 etc/a\nok\nerror 5\nerror 2\n" {
		t.Errorf("%q, %d", got, e)
	}
}

// P25.1: every row of the table.
func TestTable(t *testing.T) {
	c := script.Open()
	a := pack("a", "1.0", nil, "bin\n.x", "etc\n/", "etc/c\n!one", "l\n@bin")
	talk(t, c,
		[2]string{"key " + keyOf(1), "ok"}, [2]string{"new 200", "ok"}, [2]string{"tree", "ok"}, [2]string{"packs", "ok"}, [2]string{"audit", "ok"},
		[2]string{"install " + a, "ok"}, [2]string{"install " + a, "error 17"}, [2]string{"packs", "a 1.0 4 / ok"}, [2]string{"owner etc/c", "a / ok"}, [2]string{"owner etc", "error 5"}, [2]string{"owner", "error 2"},
		[2]string{"tree", "file 0644 78 bin / dir 0644 etc / file 0644 6f6e65 etc/c / link l bin / ok"},
		[2]string{"write etc/c 0600 00", "ok"}, [2]string{"delete bin", "ok"}, [2]string{"delete l", "ok"}, [2]string{"link l /x//y", "ok"}, [2]string{"link bin z", "ok"},
		[2]string{"audit", "2 bin / 3 etc/c / 3 l / ok"}, [2]string{"tree", "link bin z / dir 0644 etc / file 0600 00 etc/c / link l /x//y / ok"},
		[2]string{"delete bin", "ok"}, [2]string{"audit", "1 bin / 3 etc/c / 3 l / ok"},
		[2]string{"upgrade " + pack("a", "2", nil, "etc\n/", "etc/c\n!two"), "ok"}, [2]string{"packs", "a 2 2 / ok"}, [2]string{"tree", "dir 0644 etc / file 0600 00 etc/c / file 0644 74776f etc/c.new / ok"},
		[2]string{"install " + pack("ab", "1", nil, "e\n."), "ok"}, [2]string{"packs", "a 2 2 / ab 1 1 / ok"}, [2]string{"tree", "file 0644  e / dir 0644 etc / file 0600 00 etc/c / file 0644 74776f etc/c.new / ok"},
		[2]string{"remove ab", "ok"}, [2]string{"remove a", "ok"}, [2]string{"remove a", "error 18"}, [2]string{"upgrade " + a, "error 18"}, [2]string{"tree", "dir 0644 etc / file 0644 74776f etc/c.new / file 0600 00 etc/c.save / ok"},
		[2]string{"delete etc", "error 8"}, [2]string{"delete etc/c.new", "ok"}, [2]string{"delete etc/c.save", "ok"}, [2]string{"delete etc", "ok"}, [2]string{"tree", "ok"},
		[2]string{"mkdir é 7777", "ok"}, [2]string{"mkdir é/b 0000", "ok"}, [2]string{"write é/b 0000 00", "error 7"}, [2]string{"tree", "dir 7777 é / dir 0000 é/b / ok"},
		[2]string{"mkdir .holdall/x 0700", "error 19"}, [2]string{"write / 0700 00", "error 4"}, [2]string{"link x \xff", "error 4"}, [2]string{"install ", "error 2"}, [2]string{"install 00", "error 2"},
	)
}

// P25.1: the power, by lines.
func TestCrash(t *testing.T) {
	c := script.Open()
	talk(t, c,
		[2]string{"new 100", "ok"}, [2]string{"recover", "ok"}, [2]string{"write a 0600 01", "ok"}, [2]string{"crash 00 any", "ok"}, [2]string{"tree", "error 11"}, [2]string{"packs", "error 11"}, [2]string{"audit", "error 11"}, [2]string{"owner a", "error 11"}, [2]string{"write b 0600 01", "error 11"}, [2]string{"remove a", "error 11"},
		[2]string{"batch", "ok"}, [2]string{"remove a", "ok"}, [2]string{"end", "error 11"},
		[2]string{"recover", "ok"}, [2]string{"tree", "file 0600 01 a / ok"}, [2]string{"recover", "ok"},
		// Two operations: a list of places and a sector of what is written; then the power is off.
		[2]string{"crash 00 2", "ok"}, [2]string{"recover", "ok"}, [2]string{"write a 0600 02", "error 11"}, [2]string{"recover", "error 11"}, [2]string{"crash 010101 0", "ok"}, [2]string{"recover", "ok"}, [2]string{"tree", "file 0600 01 a / ok"}, [2]string{"write a 0600 02", "error 11"},
		[2]string{"crash ffffff 9999999", "ok"}, [2]string{"recover", "ok"}, [2]string{"write a 0600 02", "ok"}, [2]string{"tree", "file 0600 02 a / ok"},
	)
	// A command that changes its node and its sector: list, two sectors, flush, end, flush; then it stands, if what is loose is kept.
	for operations := 0; operations < 12; operations++ {
		for _, fates := range []string{"00", "01010101", "00010001"} {
			c := script.Open()
			same(t, c, "ok", "new 40", "write a 0600 01", fmt.Sprintf("crash 00 %d", operations), "recover")
			told := c.Do("write a 0600 02")
			same(t, c, "ok", "crash "+fates+" any", "recover")
			got := c.Do("tree")
			old, new := "file 0600 01 a\nok\n", "file 0600 02 a\nok\n"
			if got != new && (got != old || told == "ok\n") {
				t.Errorf("%d operations: %q, then %q", operations, told, got)
			}
		}
	}
}

// P25.1: lines that are none.
func TestForm(t *testing.T) {
	c := script.Open()
	for _, s := range []string{"", " ", "tree", "packs", "audit", "owner a", "recover", "crash 00 any", "batch", "end", "write a 0644 00", "mkdir a 0755", "link a b", "delete a", "install 00", "upgrade 00", "remove a", "nonsense"} {
		same(t, c, "error 2", s)
	}
	same(t, c, "ok", "new 100", "key 00")
	for _, s := range []string{
		"", " ", "  ", "Tree", "tree ", " tree", "tree x", "packs x", "audit ", "recover x", "recover ", "batch x", "end ", "end x", "owner", "owner a b", "tree\n", "tree\t",
		"key", "key 0", "key 0G", "key 00 00", "key AB", "new", "new x", "new 0100", "new 00", "new +100", "new -1", "new 100 ", "new 100 1", "new 10000000", "new 1e2", "new ", "new ١",
		"install", "install 0", "install 0x", "install 00 00", "install FF", "upgrade", "upgrade 0", "upgrade 00 11", "remove", "remove a b", "delete", "delete a b",
		"write a 0644", "write a 644 00", "write a 00644 00", "write a 0648 00", "write a 0644 0", "write a 0644 zz", "write a 0644 00 00", "write  a 0644 00", "write a  0644 00", "write a -644 00", "write a 0644",
		"mkdir a", "mkdir a 755", "mkdir a 0755 x", "mkdir a 0758", "mkdir a 07555", "mkdir", "link a", "link a b c", "link", "link a 0777 b",
		"crash", "crash any", "crash 00", "crash 0 any", "crash 00 Any", "crash 00 -1", "crash 00 01", "crash 00 10000000", "crash 00 any x", "crash 00 ", "crash zz 5", "crash 00 1 any",
	} {
		same(t, c, "error 2", s)
	}
	// None of them has done anything.
	same(t, c, "ok", "tree", "packs")
	for _, s := range []string{"new 31", "new 0", "new 2049", "new 9999999"} {
		same(t, c, "error 1", s)
	}
	same(t, c, "ok", "tree")
}

// P25.1: how long a line may be, and nobody's console.
func TestLong(t *testing.T) {
	var none *script.Console
	for _, s := range []string{"", "new 100", "tree", "nonsense"} {
		if got := none.Do(s); got != "error 1\n" {
			t.Errorf("nobody's console: %q", got)
		}
	}
	c := script.Open()
	same(t, c, "ok", "new 100")
	long := strings.Repeat("x", 1<<20)
	same(t, c, "error 2", long)
	same(t, c, "error 1", long+"x", "write a 0644 "+strings.Repeat("00", 1<<19), strings.Repeat(" ", 1<<20+1))
	same(t, c, "error 3", "write a 0644 "+strings.Repeat("00", 14593))
	same(t, c, "error 4", "delete "+long[:150]+"/")
}

// P25.1: keys count for the depots that are made behind them.
func TestKeys(t *testing.T) {
	c := script.Open()
	a := "install " + pack("a", "1", nil)
	same(t, c, "ok", "new 100", "key "+keyOf(1))
	same(t, c, "error 12", a)
	same(t, c, "error 1", "new 5")
	same(t, c, "ok", "tree")
	same(t, c, "error 12", a)
	same(t, c, "ok", "new 100", a, "tree")
	c = script.Open()
	for i := 0; i < 7; i++ {
		same(t, c, "ok", "key "+keyOf(byte(9+i)))
	}
	same(t, c, "ok", "key "+keyOf(1))
	same(t, c, "error 2", "key "+keyOf(2), "key 00", "key zz")
	same(t, c, "ok", "new 100", a)
	c = script.Open()
	same(t, c, "ok", "new 100")
	same(t, c, "error 12", a)
}

// P25.1: batches.
func TestBatch(t *testing.T) {
	c := script.Open()
	b := pack("b", "2", nil, "b\n.x")
	a := pack("a", "1", []api.Rule{{Name: "b", Op: api.OpGe, Version: "2"}}, "a\n.x")
	same(t, c, "ok", "key "+keyOf(1), "new 200")
	same(t, c, "error 2", "end")
	same(t, c, "error 15", "install "+a)
	same(t, c, "ok", "batch", "install "+a)
	same(t, c, "error 2", "batch", "install 0", "write a 0644", "nonsense", "end x", "new x")
	// What is asked, keys and depots go on; nothing is done yet.
	same(t, c, "ok", "tree", "packs", "audit", "key 00", "install "+b)
	same(t, c, "error 5", "owner a")
	same(t, c, "error 1", "new 1")
	same(t, c, "ok", "tree", "end")
	same(t, c, "a\nok", "owner a")
	same(t, c, "a 1 1\nb 2 1\nok", "packs")
	same(t, c, "error 2", "end")
	// An error ends a batch too, and nothing of it is done.
	same(t, c, "ok", "batch", "remove a", "remove c")
	same(t, c, "error 18", "end")
	same(t, c, "error 2", "end")
	same(t, c, "a 1 1\nb 2 1\nok", "packs")
	same(t, c, "ok", "batch", "remove a", "write x 0644 00", "mkdir d 0755", "link l t", "delete l", "upgrade 00")
	same(t, c, "error 1", "end")
	same(t, c, "ok", "batch", "end", "batch", "remove a", "remove b", "end")
	same(t, c, "ok", "packs", "tree")
	// A depot that is made within a batch gets it.
	same(t, c, "ok", "batch", "install "+b, "new 100", "end")
	same(t, c, "b 2 1\nok", "packs")
}

// P25.1: how many are kept, and how many a batch may be.
func TestBatchLong(t *testing.T) {
	c := script.Open()
	b := "install " + pack("b", "2", nil)
	same(t, c, "ok", "key "+keyOf(1), "new 200", "batch")
	for i := 0; i < 4; i++ {
		same(t, c, "ok", b, "remove b")
	}
	same(t, c, "ok", "end", "batch")
	for i := 0; i < 16; i++ {
		same(t, c, "ok", b)
	}
	same(t, c, "error 3", b, "remove b", "write a 0644 00")
	same(t, c, "error 2", "write a 0644", "batch")
	same(t, c, "error 3", "end")
	same(t, c, "ok", "packs", "batch")
	for i := 0; i < 9; i++ {
		same(t, c, "ok", "remove x")
	}
	same(t, c, "error 3", "end")
	same(t, c, "ok", "batch", "end")
}

// P25.2
func TestLines(t *testing.T) {
	for s, want := range map[string][]string{
		"": nil, "\n": {""}, "a": {"a"}, "a\n": {"a"}, "a\nb": {"a", "b"}, "a\n\n": {"a", ""}, "\na": {"", "a"}, "\n\n\n": {"", "", ""}, " \n ": {" ", " "}, "a\r\nb": {"a\r", "b"}, "\xff\n\x00": {"\xff", "\x00"},
	} {
		if got := script.Lines(s); !slices.Equal(got, want) {
			t.Errorf("%q: %q", s, got)
		}
	}
}

// P25.2: how long a text, and its answers, may be.
func TestRunLong(t *testing.T) {
	if got, e := script.Run(""); got != "" || e != api.OK {
		t.Errorf("%q, %d", got, e)
	}
	if got, e := script.Run("\n\n"); got != "error 2\nerror 2\n" || e != api.OK {
		t.Errorf("%q, %d", got, e)
	}
	if got, e := script.Run(strings.Repeat("x", 1<<20)); got != "error 2\n" || e != api.OK {
		t.Errorf("%d bytes, %d", len(got), e)
	}
	if got, e := script.Run(strings.Repeat("x", 1<<20+1)); got != "" || e != api.ErrLong {
		t.Errorf("one more: %d bytes, %d", len(got), e)
	}
	// error 2 has eight bytes: half a million lines come to just 4 MaxBytes.
	if got, e := script.Run(strings.Repeat("\n", 1<<19)); len(got) != 4<<20 || e != api.OK {
		t.Errorf("%d bytes, %d", len(got), e)
	}
	if got, e := script.Run(strings.Repeat("\n", 1<<19) + "x"); got != "" || e != api.ErrLong {
		t.Errorf("one line more: %d bytes, %d", len(got), e)
	}
	// And by bytes: ok has three.
	short := strings.Repeat("\n", 1<<19-1)
	if got, e := script.Run(short + "key 00\nkey 00\n"); len(got) != 4<<20-2 || e != api.OK {
		t.Errorf("two bytes less: %d bytes, %d", len(got), e)
	}
	if got, e := script.Run(short + "key 00\nkey 00\nkey 00\n"); got != "" || e != api.ErrLong {
		t.Errorf("one byte more: %d bytes, %d", len(got), e)
	}
	big := "new 2048\nwrite a 0644 " + strings.Repeat("ff", 14592) + "\n"
	if got, e := script.Run(big + strings.Repeat("tree\n", 143)); e != api.OK || len(got) != 6+143*(len("file 0644  a\nok\n")+2*14592) {
		t.Errorf("%d bytes, %d", len(got), e)
	}
	if got, e := script.Run(big + strings.Repeat("tree\n", 144) + "new 5\n"); got != "" || e != api.ErrLong {
		t.Errorf("%d bytes, %d", len(got), e)
	}
}

// some is a script of any lines.
func some(r *rand.Rand, packs []string) string {
	l := []string{"new 100", "new 40", "tree", "packs", "audit", "owner a", "batch", "end", "recover", "crash 0102 any", "crash  7", "crash 01 2", "write a 0644 00", "write d/b 0600 ", "mkdir d 0755", "link l a", "delete a", "delete d", "remove p", "remove q", "nonsense", "", "new x"}
	for _, p := range packs {
		l = append(l, "install "+p, "upgrade "+p)
	}
	s := "key " + keyOf(1) + "\nnew 200\n"
	for n := r.Intn(40); n >= 0; n-- {
		s += l[r.Intn(len(l))] + "\n"
	}
	return s
}

// P25.2, P25.3: what the first lines are answered doesn't hang on those behind, and is what a console answers.
func TestFirstLines(t *testing.T) {
	packs := []string{pack("p", "1", nil, "a\n!one", "d\n/"), pack("p", "2", nil, "a\n!two"), pack("q", "1", []api.Rule{{Name: "p"}}, "d\n/", "d/b\n@x")}
	r := rand.New(rand.NewSource(25))
	for i := 0; i < 60; i++ {
		s := some(r, packs)
		whole, e := script.Run(s)
		if e != api.OK {
			t.Fatalf("%d", e)
		}
		lines := script.Lines(s)
		c, told := script.Open(), ""
		for _, x := range lines {
			told += c.Do(x)
		}
		if whole != told {
			t.Errorf("script %d: a console answers otherwise", i)
		}
		n := r.Intn(len(lines))
		first, _ := script.Run(strings.Join(lines[:n], "\n"))
		if !strings.HasPrefix(whole, first) {
			t.Errorf("script %d: the first %d lines are answered otherwise", i, n)
		}
	}
}

// P1: any bytes are answered.
func TestAnyBytes(t *testing.T) {
	r := rand.New(rand.NewSource(1))
	good := some(r, []string{pack("p", "1", nil, "a\n!one")})
	for i := 0; i < 300; i++ {
		b := []byte(good)
		for n := r.Intn(20); n >= 0; n-- {
			b[r.Intn(len(b))] = " \n0aé\xff"[r.Intn(7)]
		}
		got, e := script.Run(string(b))
		if e != api.OK || strings.Count(got, "ok\n")+strings.Count(got, "error ") < len(script.Lines(string(b))) {
			t.Errorf("%d answers, %d", strings.Count(got, "\n"), e)
		}
	}
}
