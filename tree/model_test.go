package tree_test

import (
	"sort"
	"strings"

	"holdall/api"
	"holdall/inode"
	"holdall/path"
)

// thing is a node of the model: what it says, and where its bytes stand.
type thing struct {
	api.Stat
	names  map[string]int
	blocks []int
}

// model is a tree with its nodes as plain values.
type model struct {
	size   int
	things []thing
}

func newModel(size int) *model {
	m := &model{size: size, things: make([]thing, size/4)}
	m.things[0] = thing{Stat: api.Stat{Kind: api.KindDir, Mode: 0755, Links: 1}, names: map[string]int{}}
	return m
}

func (m *model) copy() *model {
	c := &model{size: m.size, things: append([]thing(nil), m.things...)}
	for i, x := range c.things {
		if x.names != nil {
			c.things[i].names = map[string]int{}
			for k, v := range x.names {
				c.things[i].names[k] = v
			}
		}
		c.things[i].blocks = append([]int(nil), x.blocks...)
	}
	return c
}

func (m *model) sorted(dir int) []string {
	var l []string
	for name := range m.things[dir].names {
		l = append(l, name)
	}
	sort.Strings(l)
	return l
}

func (m *model) bytes(i int) string {
	if m.things[i].Kind != api.KindDir {
		return m.things[i].Data
	}
	s := ""
	for _, name := range m.sorted(i) {
		n := m.things[i].names[name]
		s += string([]byte{0, 0, byte(n >> 8), byte(n), byte(len(name))}) + name
	}
	return s
}

// image is the sectors that the model comes to.
func (m *model) image() []string {
	img := make([]string, m.size)
	for i := range img {
		img[i] = strings.Repeat("\x00", 256)
	}
	for i, x := range m.things {
		data := m.bytes(i)
		s, e := inode.Bytes(api.Node{Kind: x.Kind, Mode: x.Mode, Uid: x.Uid, Gid: x.Gid, Time: x.Time, Links: x.Links, Size: len(data), Blocks: x.blocks})
		if e != api.OK {
			panic("the model has a node that may not be")
		}
		img[i] = s
		for j, at := range x.blocks {
			part := data[j*256 : min(len(data), j*256+256)]
			img[at] = part + strings.Repeat("\x00", 256-len(part))
		}
	}
	return img
}

func (m *model) place(i int) api.Errno {
	data := m.bytes(i)
	if len(data) > 14592 {
		return api.ErrLong
	}
	taken := map[int]bool{}
	for j, x := range m.things {
		if j != i {
			for _, at := range x.blocks {
				taken[at] = true
			}
		}
	}
	var l []int
	for at := m.size / 4; at < m.size && len(l) < (len(data)+255)/256; at++ {
		if !taken[at] {
			l = append(l, at)
		}
	}
	if len(l) < (len(data)+255)/256 {
		return api.ErrSpace
	}
	m.things[i].blocks = l
	return api.OK
}

func (m *model) lead(parts []string) (int, api.Errno) {
	at := 0
	for _, p := range parts {
		if m.things[at].Kind != api.KindDir {
			return 0, api.ErrPath
		}
		n, ok := m.things[at].names[p]
		if !ok {
			return 0, api.ErrNone
		}
		at = n
	}
	return at, api.OK
}

func (m *model) find(where string) (int, api.Errno) {
	parts, e := path.Parts(where)
	if e != api.OK {
		return 0, e
	}
	return m.lead(parts)
}

func (m *model) stands(where string) (int, string, api.Errno) {
	parts, e := path.Parts(where)
	if e != api.OK {
		return 0, "", e
	}
	dir, e := m.lead(parts[:len(parts)-1])
	if e == api.OK && m.things[dir].Kind != api.KindDir {
		e = api.ErrPath
	}
	return dir, parts[len(parts)-1], e
}

func (m *model) create(kind int, s api.Step, data string) api.Errno {
	dir, name, _ := m.stands(s.Path)
	n := 1
	for n < len(m.things) && m.things[n].Kind != 0 {
		n++
	}
	if n == len(m.things) {
		return api.ErrSpace
	}
	m.things[n] = thing{Stat: api.Stat{Kind: kind, Mode: s.Mode, Uid: s.Uid, Gid: s.Gid, Time: s.Time, Links: 1, Data: data}}
	if kind == api.KindDir {
		m.things[n].names = map[string]int{}
	}
	if e := m.place(n); e != api.OK {
		return e
	}
	m.things[dir].names[name] = n
	return m.place(dir)
}

func (m *model) drop(where string) api.Errno {
	dir, name, _ := m.stands(where)
	n := m.things[dir].names[name]
	delete(m.things[dir].names, name)
	if e := m.place(dir); e != api.OK {
		return e
	}
	m.things[n].Links--
	if m.things[n].Links == 0 {
		m.things[n] = thing{}
	}
	return api.OK
}

// step is a call of the layer.
type step struct {
	call string
	api.Step
}

// do does the call in place; beside an error the model is no good any more.
func (m *model) do(s step) api.Errno {
	if s.call == "write" || s.call == "mkdir" || s.call == "link" {
		if s.Mode < 0 || s.Mode > 07777 || s.Uid < 0 || s.Uid >= 1<<32 || s.Gid < 0 || s.Gid >= 1<<32 || s.Time < 0 {
			return api.ErrArg
		}
		dir, name, e := m.stands(s.Path)
		if e != api.OK {
			return e
		}
		if s.call == "link" && !path.Target(s.Target) {
			return api.ErrPath
		}
		n, ok := m.things[dir].names[name]
		switch {
		case s.call == "mkdir" && !ok:
			return m.create(api.KindDir, s.Step, "")
		case s.call == "link" && !ok:
			return m.create(api.KindLink, s.Step, s.Target)
		case s.call == "write" && !ok:
			return m.create(api.KindFile, s.Step, s.Data)
		case s.call != "write":
			return api.ErrExists
		case m.things[n].Kind != api.KindFile:
			return api.ErrKind
		}
		x := &m.things[n]
		x.Mode, x.Uid, x.Gid, x.Time, x.Data = s.Mode, s.Uid, s.Gid, s.Time, s.Data
		return m.place(n)
	}
	n, e := m.find(s.Path)
	if e != api.OK {
		return e
	}
	kind := m.things[n].Kind
	if s.call == "cut" || s.call == "rmdir" {
		if (kind == api.KindDir) != (s.call == "rmdir") {
			return api.ErrKind
		}
		if len(m.things[n].names) > 0 {
			return api.ErrEmpty
		}
		return m.drop(s.Path)
	}
	dir, name, e := m.stands(s.Target)
	if e != api.OK {
		return e
	}
	if kind == api.KindDir || s.call == "hard" && kind != api.KindFile {
		return api.ErrKind
	}
	if _, ok := m.things[dir].names[name]; ok {
		return api.ErrExists
	}
	if s.call == "hard" {
		m.things[dir].names[name] = n
		m.things[n].Links++
		return m.place(dir)
	}
	from, old, _ := m.stands(s.Path)
	delete(m.things[from].names, old)
	if e := m.place(from); e != api.OK {
		return e
	}
	m.things[dir].names[name] = n
	return m.place(dir)
}

func (m *model) list(dir int, where string) []api.Stat {
	var l []api.Stat
	for _, name := range m.sorted(dir) {
		n := m.things[dir].names[name]
		s := m.things[n].Stat
		s.Path = where + name
		l = append(l, s)
		if s.Kind == api.KindDir {
			l = append(l, m.list(n, where+name+"/")...)
		}
	}
	return l
}
