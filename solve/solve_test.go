package solve_test

import (
	"fmt"
	"slices"
	"testing"

	"holdall/api"
	"holdall/solve"
)

func pack(name, version string, needs, clashes []api.Rule) api.Manifest {
	return api.Manifest{Name: name, Version: version, Needs: needs, Clashes: clashes}
}

func rules(l ...api.Rule) []api.Rule { return l }

func rule(name string, op int, version string) api.Rule {
	return api.Rule{Name: name, Op: op, Version: version}
}

func packs(l ...api.Manifest) []api.Manifest { return l }

// P20.1
func TestMeets(t *testing.T) {
	l := packs(pack("a", "1", nil, nil), pack("b", "1.9", nil, nil), pack("b", "2.5", nil, nil), pack("", "1", nil, nil))
	for _, c := range []struct {
		r    api.Rule
		but  string
		want bool
	}{
		{rule("a", api.OpAny, ""), "", true}, {rule("a", api.OpAny, ""), "b", true}, {rule("a", api.OpAny, ""), "a", false}, {rule("c", api.OpAny, ""), "", false}, {rule("A", api.OpAny, ""), "", false},
		{rule("b", api.OpEq, "1.9"), "", true}, {rule("b", api.OpEq, "2.5"), "a", true}, {rule("b", api.OpEq, "2"), "", false}, {rule("b", api.OpGe, "2"), "", true}, {rule("b", api.OpGe, "2"), "b", false}, {rule("b", api.OpGt, "2.5"), "", false}, {rule("b", api.OpLt, "1.9"), "", false}, {rule("b", api.OpLe, "1.10"), "", true}, {rule("b", 6, "2"), "", false}, {rule("b", -1, "2"), "", false},
		{rule("", api.OpAny, ""), "", false}, {rule("", api.OpAny, ""), "x", true},
	} {
		if got := solve.Meets(l, c.r, c.but); got != c.want {
			t.Errorf("%v but %q: %v", c.r, c.but, got)
		}
	}
	if solve.Meets(nil, rule("a", api.OpAny, ""), "") {
		t.Error("none of none")
	}
}

// P20.1: package by package, rule by rule.
func TestLacksClashes(t *testing.T) {
	any, two, old := rule("b", api.OpAny, ""), rule("b", api.OpGe, "2"), rule("a", api.OpLt, "1")
	c, self := rule("c", api.OpAny, ""), rule("a", api.OpAny, "")
	l := packs(pack("b", "1.9", rules(c, self), rules(self, c)), pack("a", "1", rules(c, two, any, old, c), rules(any, two, self, old)))
	if got, want := solve.Lacks(l), rules(c, c, two, old, c); !slices.Equal(got, want) {
		t.Errorf("%v", got)
	}
	if got, want := solve.Clashes(l), rules(self, any); !slices.Equal(got, want) {
		t.Errorf("%v", got)
	}
	if got := solve.Lacks(nil); len(got) != 0 {
		t.Errorf("%v", got)
	}
	if got := solve.Clashes(nil); len(got) != 0 {
		t.Errorf("%v", got)
	}
	// A package meets its own needs, but doesn't clash with itself.
	own := packs(pack("a", "1", rules(self), rules(self)))
	if len(solve.Lacks(own)) != 0 || len(solve.Clashes(own)) != 0 {
		t.Error("a package and itself")
	}
	empty := packs(pack("", "1", rules(rule("", api.OpAny, "")), nil), pack("x", "1", nil, rules(rule("", api.OpAny, ""))))
	if len(solve.Lacks(empty)) != 1 || len(solve.Clashes(empty)) != 1 {
		t.Error("an empty name isn't met by needs, but by clashes")
	}
}

// P20.1: the examples, and which error comes first.
func TestSolve(t *testing.T) {
	a := pack("a", "1", rules(rule("b", api.OpGe, "2")), nil)
	b := pack("b", "2.0", nil, nil)
	clashing := pack("b", "2.0", nil, rules(rule("a", api.OpAny, "")))
	for i, c := range []struct {
		l []api.Manifest
		e api.Errno
	}{
		{nil, api.OK}, {packs(b), api.OK}, {packs(a), api.ErrNeeds}, {packs(a, pack("b", "1.9", nil, nil)), api.ErrNeeds}, {packs(a, b), api.OK}, {packs(b, a), api.OK}, {packs(a, clashing), api.ErrClash}, {packs(clashing), api.OK},
		{packs(a, clashing, pack("c", "1", rules(rule("d", api.OpAny, "")), nil)), api.ErrNeeds}, {packs(clashing, pack("a", "1", nil, nil)), api.ErrClash},
	} {
		if got := solve.Solve(c.l); got != c.e {
			t.Errorf("%d: %d, want %d", i, got, c.e)
		}
		// The order is of no account.
		slices.Reverse(c.l)
		if got := solve.Solve(c.l); got != c.e {
			t.Errorf("%d, turned: %d, want %d", i, got, c.e)
		}
	}
}

// P20.1
func TestUsers(t *testing.T) {
	b := pack("b", "2", nil, nil)
	any, one, two := rule("b", api.OpAny, ""), rule("b", api.OpLt, "2"), rule("b", api.OpEq, "2.")
	l := packs(pack("z", "1", rules(any), nil), pack("c", "1", rules(one), nil), pack("a", "1", rules(rule("x", api.OpAny, ""), one, rule("b", api.OpLe, "2")), nil), pack("z", "2", rules(any), nil), pack("d", "1", nil, rules(any)), pack("b", "2", rules(any), nil), pack("e", "1", rules(two), nil), pack("", "1", rules(any, any), nil))
	if got := solve.Users(l, b); !slices.Equal(got, []string{"", "a", "b", "z"}) {
		t.Errorf("%q", got)
	}
	if got := solve.Users(l, pack("q", "2", nil, nil)); len(got) != 0 {
		t.Errorf("%q", got)
	}
	if got := solve.Users(nil, b); len(got) != 0 {
		t.Errorf("%q", got)
	}
}

// P20.2: a package more without rules makes nothing lack; the order is of no account.
func TestMore(t *testing.T) {
	l := packs(pack("a", "1", rules(rule("b", api.OpGe, "2"), rule("c", api.OpAny, "")), rules(rule("d", api.OpLt, "5"))), pack("b", "2", rules(rule("a", api.OpEq, "1")), nil), pack("d", "4", rules(rule("a", api.OpGt, "1")), nil))
	lacks := len(solve.Lacks(l))
	for _, m := range packs(pack("c", "1", nil, nil), pack("x", "1", nil, nil), pack("b", "9", nil, nil)) {
		if got := len(solve.Lacks(append(slices.Clone(l), m))); got > lacks {
			t.Errorf("%s makes %d lack, not %d", m.Name, got, lacks)
		}
	}
	told := func(l []api.Manifest) string {
		var x, y []string
		for _, r := range solve.Lacks(l) {
			x = append(x, fmt.Sprint(r))
		}
		for _, r := range solve.Clashes(l) {
			y = append(y, fmt.Sprint(r))
		}
		slices.Sort(x)
		slices.Sort(y)
		return fmt.Sprint(x, y, solve.Users(l, pack("a", "1", nil, nil)), solve.Solve(l))
	}
	for _, o := range [][]int{{0, 2, 1}, {1, 0, 2}, {2, 1, 0}, {1, 2, 0}, {2, 0, 1}} {
		if got := told(packs(l[o[0]], l[o[1]], l[o[2]])); got != told(l) {
			t.Errorf("order %v: %s, want %s", o, got, told(l))
		}
	}
}

// What is handed in isn't changed.
func TestUnchanged(t *testing.T) {
	l := packs(pack("b", "1", rules(rule("x", 0, "")), rules(rule("a", 0, ""))), pack("a", "1", rules(rule("b", 0, "")), nil))
	was := fmt.Sprint(l)
	solve.Lacks(l)[0].Name = "changed"
	solve.Clashes(l)[0].Name = "changed"
	solve.Users(l, l[0])
	solve.Solve(l)
	if fmt.Sprint(l) != was {
		t.Error("the packages were changed")
	}
}
