package depot_test

import (
	"crypto/sha256"
	"fmt"
	"slices"
	"strings"

	"holdall/api"
	"holdall/owner"
	"holdall/parcel"
	"holdall/path"
	"holdall/plan"
	"holdall/seal"
	"holdall/solve"
)

func seedOf(b byte) string { return strings.Repeat(string([]byte{b}), 32) }

func keyOf(b byte) string {
	key, _ := seal.Public(seedOf(b))
	return key
}

func sum(s string) string {
	h := sha256.Sum256([]byte(s))
	return string(h[:])
}

// told is a value with all its fields, lists that hold nothing alike.
func told(x any) string { return fmt.Sprintf("%q", []any{x}) }

// part is an entry, and the member that it says.
type part struct {
	x api.Entry
	m api.Member
}

func dir(where string) part {
	return part{api.Entry{Kind: api.KindDir, Mode: 0755, Path: where}, api.Member{Path: where, Kind: api.KindDir, Mode: 0755, Uid: 1, Gid: 2, Time: 3}}
}

func file(where, data string) part {
	return part{api.Entry{Kind: api.KindFile, Mode: 0644, Sum: sum(data), Path: where}, api.Member{Path: where, Kind: api.KindFile, Mode: 0644, Uid: 4, Gid: 5, Time: 6, Data: data}}
}

func conf(where, data string) part {
	p := file(where, data)
	p.x.Kind = api.KindConf
	return p
}

func link(where, target string) part {
	return part{api.Entry{Kind: api.KindLink, Path: where, Target: target}, api.Member{Path: where, Kind: api.KindLink, Mode: 0777, Target: target}}
}

func needs(name string, op int, version string) api.Rule {
	return api.Rule{Name: name, Op: op, Version: version}
}

// manifest is that of parts, and their members.
func manifest(name, version string, l ...part) (api.Manifest, []api.Member) {
	m := api.Manifest{Name: name, Version: version}
	var members []api.Member
	for _, p := range l {
		m.Entries = append(m.Entries, p.x)
		members = append(members, p.m)
	}
	return m, members
}

func build(seed byte, m api.Manifest, l []api.Member) string {
	s, e := parcel.Build(seedOf(seed), m, l)
	if e != api.OK {
		panic(fmt.Sprintf("package %s: %d", m.Name, e))
	}
	return s
}

// pack is a package of parts, signed by the first seed.
func pack(name, version string, l ...part) string {
	m, members := manifest(name, version, l...)
	return build(1, m, members)
}

// ruled is a package with rules.
func ruled(name, version string, need, clash []api.Rule, l ...part) string {
	m, members := manifest(name, version, l...)
	m.Needs, m.Clashes = need, clash
	return build(1, m, members)
}

func install(s string) api.Command   { return api.Command{Kind: api.DoInstall, Pack: s} }
func upgrade(s string) api.Command   { return api.Command{Kind: api.DoUpgrade, Pack: s} }
func remove(name string) api.Command { return api.Command{Kind: api.DoRemove, Name: name} }
func batch(l ...api.Command) api.Command {
	return api.Command{Kind: api.DoBatch, All: l}
}
func write(where, data string) api.Command {
	return api.Command{Kind: api.DoWrite, Path: where, Mode: 0600, Data: data}
}
func del(where string) api.Command { return api.Command{Kind: api.DoDelete, Path: where} }
func mkdir(where string) api.Command {
	return api.Command{Kind: api.DoMkdir, Path: where, Mode: 0700}
}
func symlink(where, target string) api.Command {
	return api.Command{Kind: api.DoLink, Path: where, Mode: 0777, Data: target}
}

// machine has a tree and a database as plain lists, and room for all.
type machine struct {
	things map[string]api.Stat
	base   api.Base
	ring   []string
}

func newMachine(ring ...string) *machine {
	return &machine{things: map[string]api.Stat{}, ring: ring}
}

func (m *machine) copy() *machine {
	c := newMachine(m.ring...)
	for k, v := range m.things {
		c.things[k] = v
	}
	c.base = m.base
	return c
}

// list is the tree's, in its order.
func (m *machine) list() []api.Stat {
	var l []api.Stat
	for _, s := range m.things {
		l = append(l, s)
	}
	slices.SortFunc(l, func(a, b api.Stat) int {
		return slices.Compare(strings.Split(a.Path, "/"), strings.Split(b.Path, "/"))
	})
	return l
}

// stands is the error of where a path stands.
func (m *machine) stands(where string) api.Errno {
	parts, e := path.Parts(where)
	if e != api.OK {
		return e
	}
	for i := 1; i < len(parts); i++ {
		s, ok := m.things[strings.Join(parts[:i], "/")]
		if !ok {
			return api.ErrNone
		}
		if s.Kind != api.KindDir {
			return api.ErrPath
		}
	}
	return api.OK
}

func (m *machine) isEmpty(where string) bool {
	for k := range m.things {
		if strings.HasPrefix(k, where+"/") {
			return false
		}
	}
	return true
}

func (m *machine) make(kind int, s api.Step, data string) api.Errno {
	if e := m.stands(s.Path); e != api.OK {
		return e
	}
	if kind == api.KindLink && !path.Target(data) {
		return api.ErrPath
	}
	old, ok := m.things[s.Path]
	if ok && kind != api.KindFile {
		return api.ErrExists
	}
	if ok && old.Kind != api.KindFile {
		return api.ErrKind
	}
	if len(data) > api.MaxFile {
		return api.ErrLong
	}
	m.things[s.Path] = api.Stat{Path: s.Path, Kind: kind, Mode: s.Mode, Uid: s.Uid, Gid: s.Gid, Time: s.Time, Links: 1, Data: data}
	return api.OK
}

func (m *machine) drop(where string, isDir bool) api.Errno {
	if e := m.stands(where); e != api.OK {
		return e
	}
	s, ok := m.things[where]
	if !ok {
		return api.ErrNone
	}
	if isDir != (s.Kind == api.KindDir) {
		return api.ErrKind
	}
	if !m.isEmpty(where) {
		return api.ErrEmpty
	}
	delete(m.things, where)
	return api.OK
}

func (m *machine) step(s api.Step) api.Errno {
	switch s.Kind {
	case api.StepMkdir:
		return m.make(api.KindDir, s, "")
	case api.StepWrite:
		return m.make(api.KindFile, s, s.Data)
	case api.StepLink:
		return m.make(api.KindLink, s, s.Target)
	case api.StepCut:
		return m.drop(s.Path, false)
	case api.StepRmdir:
		m.drop(s.Path, true)
		return api.OK
	}
	x, ok := m.things[s.Path]
	if _, there := m.things[s.Target]; !ok || there || x.Kind == api.KindDir {
		panic("a rename of nothing, or over something")
	}
	delete(m.things, s.Path)
	x.Path = s.Target
	m.things[s.Target] = x
	return api.OK
}

func (m *machine) forPacks(l []api.Command) api.Errno {
	for _, c := range l {
		if c.Kind < api.DoInstall || c.Kind > api.DoRemove {
			return api.ErrArg
		}
		var man api.Manifest
		var members []api.Member
		e := api.OK
		if c.Kind != api.DoRemove {
			man, members, e = parcel.Open(c.Pack, m.ring)
			if e != api.OK {
				return e
			}
		}
		var steps []api.Step
		switch c.Kind {
		case api.DoInstall:
			steps, m.base, e = plan.Install(m.base, m.list(), man, members)
		case api.DoUpgrade:
			steps, m.base, e = plan.Upgrade(m.base, m.list(), man, members)
		default:
			steps, m.base, e = plan.Remove(m.base, m.list(), c.Name)
		}
		if e != api.OK {
			return e
		}
		for _, s := range steps {
			if e := m.step(s); e != api.OK {
				return e
			}
		}
	}
	return solve.Solve(m.base.Packs)
}

// do does a command in place; beside an error the machine is no good any more.
func (m *machine) do(c api.Command) api.Errno {
	switch c.Kind {
	case api.DoInstall, api.DoUpgrade, api.DoRemove:
		return m.forPacks([]api.Command{c})
	case api.DoBatch:
		if len(c.All) > api.MaxBatch {
			return api.ErrLong
		}
		return m.forPacks(c.All)
	case api.DoWrite, api.DoDelete, api.DoMkdir, api.DoLink:
	default:
		return api.ErrArg
	}
	if _, e := path.Parts(c.Path); e != api.OK {
		return e
	}
	if c.Path == ".holdall" || strings.HasPrefix(c.Path, ".holdall/") {
		return api.ErrReserved
	}
	if c.Kind == api.DoDelete {
		e := m.drop(c.Path, false)
		if e == api.ErrKind {
			e = m.drop(c.Path, true)
		}
		return e
	}
	if c.Mode < 0 || c.Mode > 07777 {
		return api.ErrArg
	}
	s := api.Step{Path: c.Path, Mode: c.Mode}
	switch c.Kind {
	case api.DoWrite:
		return m.make(api.KindFile, s, c.Data)
	case api.DoMkdir:
		return m.make(api.KindDir, s, "")
	}
	return m.make(api.KindLink, s, c.Data)
}

// owner is the name of the package whose a path is.
func (m *machine) owner(where string) (string, api.Errno) {
	name, ok := owner.Owner(m.base, where)
	if !ok {
		return "", api.ErrNone
	}
	return name, api.OK
}
