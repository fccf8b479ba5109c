package tree

import (
	"slices"
	"strings"

	"holdall/api"
	"holdall/inode"
	"holdall/path"
)

// view is a tree's sectors, and their nodes.
type view struct {
	img   []string
	nodes []api.Node
}

// root is the root's node.
const root = 0

func blank() string { return strings.Repeat("\x00", api.SectorSize) }

// sized tells whether there are as many sectors as may be, and each of its size.
func sized(img []string) bool {
	if len(img) < api.MinSectors/2 || len(img) > api.MaxSectors {
		return false
	}
	for _, s := range img {
		if len(s) != api.SectorSize {
			return false
		}
	}
	return true
}

func readNodes(img []string) ([]api.Node, bool) {
	var l []api.Node
	for _, s := range img[:inode.Nodes(len(img))] {
		x, e := inode.Read(s)
		if e != api.OK {
			return nil, false
		}
		l = append(l, x)
	}
	return l, true
}

// apart tells whether all blocks stand behind the nodes, and none is two times one.
func (v *view) apart() bool {
	used := make([]bool, len(v.img))
	for _, x := range v.nodes {
		for _, at := range x.Blocks {
			if at < len(v.nodes) || at >= len(v.img) || used[at] {
				return false
			}
			used[at] = true
		}
	}
	return true
}

func (v *view) bytes(node int) string {
	var b []byte
	for _, at := range v.nodes[node].Blocks {
		b = append(b, v.img[at]...)
	}
	return string(b[:v.nodes[node].Size])
}

func below(where, name string) string {
	if where == "" {
		return name
	}
	return path.Join([]string{where, name})
}

// met counts how often each node is met in a directory and what stands in it, and says whether all of it may be.
func (v *view) met(dir int, where string, depth int, counts []int) bool {
	names, ok := inode.Names(v.bytes(dir))
	if !ok {
		return false
	}
	for _, p := range names {
		at := below(where, p.Name)
		// The bound on parts ends the way down, whatever the bytes say.
		if !path.Part(p.Name) || depth >= api.MaxParts || len(at) > api.MaxPath {
			return false
		}
		if p.Node <= root || p.Node >= len(v.nodes) {
			return false
		}
		counts[p.Node]++
		switch v.nodes[p.Node].Kind {
		case api.KindFree:
			return false
		case api.KindDir:
			if counts[p.Node] > 1 || !v.met(p.Node, at, depth+1, counts) {
				return false
			}
		case api.KindLink:
			if !path.Target(v.bytes(p.Node)) {
				return false
			}
		}
	}
	return true
}

// open is a view of the sectors, and whether they may be.
func open(img []string) (*view, bool) {
	if !sized(img) {
		return nil, false
	}
	nodes, ok := readNodes(img)
	if !ok || nodes[root].Kind != api.KindDir {
		return nil, false
	}
	v := &view{img: img, nodes: nodes}
	counts := make([]int, len(nodes))
	counts[root] = 1
	if !v.apart() || !v.met(root, "", 0, counts) {
		return nil, false
	}
	for i, x := range nodes {
		if counts[i] != x.Links {
			return nil, false
		}
	}
	return v, true
}

func (v *view) names(dir int) []api.Place {
	l, _ := inode.Names(v.bytes(dir))
	return l
}

func (v *view) look(dir int, name string) (int, bool) {
	for _, p := range v.names(dir) {
		if p.Name == name {
			return p.Node, true
		}
	}
	return 0, false
}

// lead is the node to which parts lead.
func (v *view) lead(parts []string) (int, api.Errno) {
	at := root
	for _, name := range parts {
		if v.nodes[at].Kind != api.KindDir {
			return 0, api.ErrPath
		}
		next, ok := v.look(at, name)
		if !ok {
			return 0, api.ErrNone
		}
		at = next
	}
	return at, api.OK
}

func (v *view) find(where string) (int, api.Errno) {
	parts, e := path.Parts(where)
	if e != api.OK {
		return 0, e
	}
	return v.lead(parts)
}

// stands is the directory in which a path stands, and its name there.
func (v *view) stands(where string) (int, string, api.Errno) {
	parts, e := path.Parts(where)
	if e != api.OK {
		return 0, "", e
	}
	last := len(parts) - 1
	dir, e := v.lead(parts[:last])
	if e != api.OK {
		return 0, "", e
	}
	if v.nodes[dir].Kind != api.KindDir {
		return 0, "", api.ErrPath
	}
	return dir, parts[last], api.OK
}

func (v *view) stat(node int, where string) api.Stat {
	x := v.nodes[node]
	s := api.Stat{Path: where, Kind: x.Kind, Mode: x.Mode, Uid: x.Uid, Gid: x.Gid, Time: x.Time, Links: x.Links}
	if x.Kind != api.KindDir {
		s.Data = v.bytes(node)
	}
	return s
}

func (v *view) list(dir int, where string) []api.Stat {
	var l []api.Stat
	for _, p := range v.names(dir) {
		at := below(where, p.Name)
		l = append(l, v.stat(p.Node, at))
		if v.nodes[p.Node].Kind == api.KindDir {
			l = append(l, v.list(p.Node, at)...)
		}
	}
	return l
}

// spare are the least n sectors behind the nodes that are no node's.
func (v *view) spare(n int) ([]int, bool) {
	used := make([]bool, len(v.img))
	for _, x := range v.nodes {
		for _, at := range x.Blocks {
			used[at] = true
		}
	}
	var l []int
	for at := len(v.nodes); at < len(used) && len(l) < n; at++ {
		if !used[at] {
			l = append(l, at)
		}
	}
	return l, len(l) == n
}

// wipe makes a node's sectors bytes 0: they are nobody's from now on.
func (v *view) wipe(node int) {
	for _, at := range v.nodes[node].Blocks {
		v.img[at] = blank()
	}
	v.nodes[node].Blocks = nil
}

func (v *view) save(node int) api.Errno {
	s, e := inode.Bytes(v.nodes[node])
	if e == api.OK {
		v.img[node] = s
	}
	return e
}

func (v *view) set(node int, data string) api.Errno {
	if len(data) > api.MaxFile {
		return api.ErrLong
	}
	// The node's own sectors may be taken again: a file that is written with as many bytes finds room.
	v.wipe(node)
	l, ok := v.spare(inode.Sectors(len(data)))
	if !ok {
		return api.ErrSpace
	}
	v.nodes[node].Blocks = l
	v.nodes[node].Size = len(data)
	rest := data + strings.Repeat("\x00", len(l)*api.SectorSize-len(data))
	for i, at := range l {
		v.img[at] = rest[i*api.SectorSize : (i+1)*api.SectorSize]
	}
	return v.save(node)
}

func (v *view) name(dir int, name string, node int) api.Errno {
	l := v.names(dir)
	at := 0
	for at < len(l) && l[at].Name < name {
		at++
	}
	return v.set(dir, inode.List(slices.Insert(l, at, api.Place{Name: name, Node: node})))
}

func (v *view) unname(dir int, name string) api.Errno {
	var rest []api.Place
	for _, p := range v.names(dir) {
		if p.Name != name {
			rest = append(rest, p)
		}
	}
	return v.set(dir, inode.List(rest))
}

func (v *view) create(dir int, name string, x api.Node, data string) api.Errno {
	node := root + 1
	for node < len(v.nodes) && v.nodes[node].Kind != api.KindFree {
		node++
	}
	if node == len(v.nodes) {
		return api.ErrSpace
	}
	v.nodes[node] = x
	e := v.set(node, data)
	if e != api.OK {
		return e
	}
	return v.name(dir, name, node)
}

// remove takes a name out of a directory, and its node too, if that has no other.
func (v *view) remove(dir int, name string, node int) api.Errno {
	e := v.unname(dir, name)
	if e != api.OK {
		return e
	}
	v.nodes[node].Links--
	if v.nodes[node].Links == 0 {
		v.wipe(node)
		v.nodes[node] = api.Node{}
	}
	return v.save(node)
}
