package tape

import (
	"strings"

	"holdall/api"
	"holdall/header"
	"holdall/pax"
)

// note is a record's value, if there is one.
type note struct {
	text string
	is   bool
}

// notes are the records that count for a member.
type notes struct {
	path, target, size, uid, gid, time note
}

// of is the last of the records with that key, or what was there.
func (n note) of(l []api.Pair, key string) note {
	text, is := pax.Last(l, key)
	if is {
		return note{text, true}
	}
	return n
}

func (n *notes) take(l []api.Pair) {
	n.path = n.path.of(l, keyPath)
	n.target = n.target.of(l, keyTarget)
	n.size = n.size.of(l, keySize)
	n.uid = n.uid.of(l, keyUid)
	n.gid = n.gid.of(l, keyGid)
	n.time = n.time.of(l, keyTime)
}

// number is that of a record, or the header's.
func (n note) number(other int) (int, api.Errno) {
	if !n.is {
		return other, api.OK
	}
	if len(n.text) < 1 || len(n.text) > maxDigits {
		return 0, api.ErrForm
	}
	sum := 0
	for i := 0; i < len(n.text); i++ {
		if n.text[i] < '0' || n.text[i] > '9' {
			return 0, api.ErrForm
		}
		sum = sum*10 + int(n.text[i]-'0')
	}
	return sum, api.OK
}

// or is a record's text, or the header's.
func (n note) or(other string) string {
	if n.is {
		return n.text
	}
	return other
}

// reader goes through the blocks of an archive.
type reader struct {
	text string
	at   int
	all  notes
	// next are the records for the next member, if there were any since the last one.
	next    []api.Pair
	hasNext bool
	members []api.Member
}

func blank(s string) bool { return strings.Trim(s, "\x00") == "" }

func (r *reader) block() (string, api.Errno) {
	if len(r.text)-r.at < api.Block {
		return "", api.ErrForm
	}
	s := r.text[r.at : r.at+api.Block]
	r.at += api.Block
	return s, api.OK
}

// bytes are the next n, and bytes 0 up to the end of a block; n is not below 0, nor more than MaxBytes.
func (r *reader) bytes(n int) (string, api.Errno) {
	end := r.at + n
	whole := end + fill(n)
	if whole > len(r.text) || !blank(r.text[end:whole]) {
		return "", api.ErrForm
	}
	s := r.text[r.at:end]
	r.at = whole
	return s, api.OK
}

func (r *reader) records(h api.Header) api.Errno {
	if h.Size > api.MaxBytes {
		return api.ErrLong
	}
	s, e := r.bytes(h.Size)
	if e != api.OK {
		return e
	}
	if h.Flag == flagNext && r.hasNext {
		return api.ErrForm
	}
	l, e := pax.Decode(s)
	if e != api.OK {
		return e
	}
	if h.Flag == flagAll {
		r.all.take(l)
		return api.OK
	}
	r.next, r.hasNext = l, true
	return api.OK
}

func kind(flag byte) (int, api.Errno) {
	switch flag {
	case flagFile, 0:
		return api.KindFile, api.OK
	case flagHard:
		return api.KindHard, api.OK
	case flagLink:
		return api.KindLink, api.OK
	case flagDir:
		return api.KindDir, api.OK
	}
	return 0, api.ErrForm
}

func (r *reader) data(h api.Header, kind int, n notes) (string, api.Errno) {
	if kind != api.KindFile {
		return "", api.OK
	}
	size, e := n.size.number(h.Size)
	if e != api.OK {
		return "", e
	}
	if size > api.MaxBytes {
		return "", api.ErrLong
	}
	return r.bytes(size)
}

func name(h api.Header, kind int, n notes) string {
	s := h.Name
	if h.Prefix != "" {
		s = h.Prefix + "/" + s
	}
	s = n.path.or(s)
	if kind == api.KindDir {
		return strings.TrimSuffix(s, "/")
	}
	return s
}

// member takes a member, whose header h is.
func (r *reader) member(h api.Header) api.Errno {
	k, e := kind(h.Flag)
	if e != api.OK {
		return e
	}
	n := r.all
	n.take(r.next)
	r.next, r.hasNext = nil, false
	m := api.Member{Kind: k, Mode: h.Mode}
	m.Data, e = r.data(h, k, n)
	if e != api.OK {
		return e
	}
	m.Path = name(h, k, n)
	if isLink(k) {
		m.Target = n.target.or(h.Link)
	}
	m.Uid, e = n.uid.number(h.Uid)
	if e != api.OK {
		return e
	}
	m.Gid, e = n.gid.number(h.Gid)
	if e != api.OK {
		return e
	}
	m.Time, e = n.time.number(h.Time)
	if e != api.OK {
		return e
	}
	e = Check(m)
	if e != api.OK {
		return e
	}
	if len(r.members) >= api.MaxEntries {
		return api.ErrLong
	}
	r.members = append(r.members, m)
	return api.OK
}

// end takes what stands behind the first blank block.
func (r *reader) end() api.Errno {
	s, e := r.block()
	if e != api.OK || !header.Blank(s) || r.hasNext || !blank(r.text[r.at:]) {
		return api.ErrForm
	}
	return api.OK
}

// step takes what the next header tells of, and says whether the archive ends.
func (r *reader) step() (bool, api.Errno) {
	s, e := r.block()
	if e != api.OK {
		return false, e
	}
	if header.Blank(s) {
		return true, r.end()
	}
	h, e := header.Decode(s)
	if e != api.OK {
		return false, e
	}
	if h.Flag == flagNext || h.Flag == flagAll {
		return false, r.records(h)
	}
	return false, r.member(h)
}

// Read is the members of an archive.
func Read(s string) ([]api.Member, api.Errno) {
	if len(s) > maxArchive {
		return nil, api.ErrLong
	}
	r := &reader{text: s}
	for {
		ended, e := r.step()
		if e != api.OK {
			return nil, e
		}
		if ended {
			return r.members, api.OK
		}
	}
}
