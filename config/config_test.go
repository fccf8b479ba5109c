package config_test

import (
	"testing"

	"holdall/api"
	"holdall/config"
)

// P21.1: all ways in which three texts may be the same or not.
func TestDecide(t *testing.T) {
	for _, c := range []struct {
		orig, now, next string
		want            int
	}{
		{"a", "a", "a", api.Replace}, {"a", "a", "b", api.Replace}, {"a", "c", "a", api.Keep}, {"a", "c", "c", api.Keep}, {"a", "c", "b", api.Beside},
		{"", "", "", api.Replace}, {"", "", "b", api.Replace}, {"", "c", "", api.Keep}, {"", "c", "c", api.Keep}, {"a", "", "", api.Keep}, {"a", "", "a", api.Keep}, {"a", "", "b", api.Beside}, {"", "c", "b", api.Beside}, {"a", "c", "", api.Beside}, {"a", "a ", "A", api.Beside}, {"\x00", "\xff", "\x00\x00", api.Beside},
	} {
		if got := config.Decide(c.orig, c.now, c.next); got != c.want {
			t.Errorf("came %q, is %q, comes %q: %d", c.orig, c.now, c.next, got)
		}
	}
}

// P21.1
func TestLeave(t *testing.T) {
	for _, c := range []struct {
		orig, now string
		want      bool
	}{{"a", "a", false}, {"a", "b", true}, {"", "", false}, {"", "b", true}, {"a", "", true}, {"a", "A", true}, {"\xff", "\xff", false}} {
		if got := config.Leave(c.orig, c.now); got != c.want {
			t.Errorf("came %q, is %q: %v", c.orig, c.now, got)
		}
	}
}

// P21.2: what was changed is never replaced by anything else.
func TestNeverReplaced(t *testing.T) {
	l := []string{"", "a", "b", "c", "aa", "\x00", "\xff"}
	for _, orig := range l {
		for _, now := range l {
			for _, next := range l {
				got := config.Decide(orig, now, next)
				if got < api.Replace || got > api.Beside || config.Leave(orig, now) && got == api.Replace {
					t.Errorf("came %q, is %q, comes %q: %d", orig, now, next, got)
				}
				if got == api.Beside && (next == now || next == orig) {
					t.Errorf("came %q, is %q, comes %q: beside", orig, now, next)
				}
			}
		}
	}
}

// P21.3
func TestBeside(t *testing.T) {
	for _, s := range []string{"", "etc/f", "a.new", "a/", "\xff", "a.save"} {
		if got := config.New(s); got != s+".new" {
			t.Errorf("New of %q: %q", s, got)
		}
		if got := config.Save(s); got != s+".save" {
			t.Errorf("Save of %q: %q", s, got)
		}
	}
}
