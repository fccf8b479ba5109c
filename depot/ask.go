package depot

import (
	"slices"

	"holdall/act"
	"holdall/api"
	"holdall/owner"
	"holdall/path"
	"holdall/tree"
)

// copied is b with all its lists in new memory.
func copied(b api.Base) api.Base {
	packs := slices.Clone(b.Packs)
	for i, m := range packs {
		packs[i].Needs = slices.Clone(m.Needs)
		packs[i].Clashes = slices.Clone(m.Clashes)
		packs[i].Entries = slices.Clone(m.Entries)
	}
	return api.Base{Packs: packs, Dirs: slices.Clone(b.Dirs)}
}

// Packs is the database.
func (d *Depot) Packs() (api.Base, api.Errno) {
	e := d.ready()
	if e != api.OK {
		return api.Base{}, e
	}
	return copied(d.now.base), api.OK
}

// Tree is what is told of all paths but the depot's own.
func (d *Depot) Tree() ([]api.Stat, api.Errno) {
	e := d.ready()
	if e != api.OK {
		return nil, e
	}
	l, e := tree.List(d.now.img)
	if e != api.OK {
		return nil, e
	}
	var out []api.Stat
	for _, s := range l {
		if !path.Reserved(s.Path) {
			out = append(out, s)
		}
	}
	return out, api.OK
}

// Owner is the name of the package whose a path is.
func (d *Depot) Owner(where string) (string, api.Errno) {
	e := d.ready()
	if e != api.OK {
		return "", e
	}
	name, ok := owner.Owner(d.now.base, where)
	if !ok {
		return "", api.ErrNone
	}
	return name, api.OK
}

// Audit is what isn't as the packages say.
func (d *Depot) Audit() ([]api.Finding, api.Errno) {
	l, e := d.Tree()
	if e != api.OK {
		return nil, e
	}
	return act.Audit(d.now.base.Packs, l), api.OK
}

// Sectors is the disk.
func (d *Depot) Sectors() api.Disk {
	if d == nil {
		return api.Disk{}
	}
	disk := d.disk
	disk.Safe = slices.Clone(disk.Safe)
	disk.Loose = slices.Clone(disk.Loose)
	return disk
}
