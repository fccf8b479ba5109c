package redo_test

import (
	"crypto/sha256"
	"encoding/binary"
	"math"
	"math/rand"
	"slices"
	"strings"
	"testing"

	"holdall/api"
	"holdall/block"
	"holdall/redo"
)

func sector(b byte) string { return strings.Repeat(string([]byte{b}), 256) }

func fill(s string) string { return s + strings.Repeat("\x00", 256-len(s)) }

func be8(n uint64) string { return string(binary.BigEndian.AppendUint64(nil, n)) }

func be4(n int) string { return string(binary.BigEndian.AppendUint32(nil, uint32(n))) }

func beginning(epoch uint64) string { return fill("HLOG" + be8(epoch)) }

// body is the chapter's body of writes.
func body(epoch uint64, l []api.Write) []string {
	var out []string
	for i := 0; i < len(l); i += 61 {
		s := be8(epoch) + be4(len(l))
		for j := i; j < len(l) && j < i+61; j++ {
			s += be4(l[j].At)
		}
		out = append(out, fill(s))
	}
	for _, w := range l {
		out = append(out, w.Data)
	}
	return out
}

func end(epoch uint64, l []api.Write, sectors []string) string {
	sum := sha256.Sum256([]byte(strings.Join(sectors, "")))
	return fill("DONE" + be8(epoch) + be4(len(l)) + string(sum[:]))
}

func same(a, b api.Disk) bool {
	return slices.Equal(a.Safe, b.Safe) && slices.Equal(a.Loose, b.Loose) && a.Fuse == b.Fuse && a.Down == b.Down
}

func raw(t *testing.T, n int) api.Disk {
	t.Helper()
	d, e := block.New(n)
	if e != api.OK {
		t.Fatalf("New: %d", e)
	}
	return d
}

func formatted(t *testing.T, n int) api.Disk {
	t.Helper()
	d, e := redo.Format(raw(t, n))
	if e != api.OK {
		t.Fatalf("Format: %d", e)
	}
	return d
}

// with is d with other safe sectors from a place on.
func with(d api.Disk, at int, l ...string) api.Disk {
	d.Safe = slices.Clone(d.Safe)
	copy(d.Safe[at:], l)
	return d
}

func home(t *testing.T, d api.Disk) []string {
	t.Helper()
	l, e := redo.Home(d)
	if e != api.OK {
		t.Fatalf("Home: %d", e)
	}
	return l
}

// writes are n of them, of bytes that differ.
func writes(n, from, step int) []api.Write {
	var l []api.Write
	for i := 0; i < n; i++ {
		l = append(l, api.Write{At: from + i*step, Data: sector(byte(100 + i))})
	}
	return l
}

// P16.1
func TestLogEpochFits(t *testing.T) {
	for _, n := range []int{0, 1, 3, 4, 5, 31, 32, 33, 35, 40, 2048, 5000} {
		if got := redo.Log(api.Disk{Safe: make([]string, n)}); got != n/4 {
			t.Errorf("log of %d: %d", n, got)
		}
	}
	d := formatted(t, 40)
	if n, ok := redo.Epoch(d); n != 1 || !ok {
		t.Errorf("epoch %d, %v", n, ok)
	}
	down := d
	down.Down = true
	for _, c := range []struct {
		d  api.Disk
		n  int
		ok bool
	}{
		{raw(t, 40), 0, false}, {api.Disk{}, 0, false}, {down, 0, false}, {with(d, 0, "HLOG"), 0, false},
		{with(d, 0, beginning(77)), 77, true}, {with(d, 0, beginning(1<<62)), 1 << 62, true}, {with(d, 0, beginning(math.MaxInt64)), math.MaxInt64, true}, {with(d, 0, beginning(0)), 0, false},
		{with(d, 0, fill("HLOG"+be8(5)+"\x01")), 5, false}, {with(d, 0, fill("HLOG" + be8(5))[:255]+"x"), 5, false}, {with(d, 0, fill("HLOg"+be8(5))), 0, false}, {with(d, 0, fill("DONE"+be8(5))), 0, false},
	} {
		if n, ok := redo.Epoch(c.d); n != c.n || ok != c.ok {
			t.Errorf("epoch %d, %v, want %d, %v", n, ok, c.n, c.ok)
		}
	}
	if n, ok := redo.Epoch(api.Disk{Safe: d.Safe, Loose: []api.Write{{At: 0, Data: beginning(9)}}}); n != 9 || !ok {
		t.Errorf("what was written last: %d, %v", n, ok)
	}
	for _, size := range []int{32, 40, 255, 256, 300, 500, 1000, 2048} {
		d := raw(t, size)
		for n := -2; n < size/4+3; n++ {
			want := n >= 0 && (n+60)/61+n+2 <= size/4
			if redo.Fits(d, n) != want {
				t.Errorf("%d writes on %d: %v", n, size, !want)
			}
		}
	}
	for _, n := range []int{math.MinInt, math.MaxInt, math.MaxInt - 10, 1 << 32, 2049} {
		if redo.Fits(raw(t, 2048), n) {
			t.Errorf("%d fit", n)
		}
	}
	if redo.Fits(api.Disk{}, 0) || redo.Fits(api.Disk{Safe: make([]string, 7)}, 0) || !redo.Fits(api.Disk{Safe: make([]string, 8)}, 0) {
		t.Error("none fit just if the log has two sectors")
	}
}

// P16.1
func TestHome(t *testing.T) {
	d := with(raw(t, 42), 10, sector(1), sector(2))
	d.Loose = []api.Write{{At: 11, Data: sector(3)}, {At: 41, Data: sector(4)}, {At: 9, Data: sector(5)}}
	l := home(t, d)
	if len(l) != 32 || l[0] != sector(1) || l[1] != sector(3) || l[31] != sector(4) || l[2] != sector(0) {
		t.Errorf("%d sectors", len(l))
	}
	if l, e := redo.Home(api.Disk{}); e != api.ErrArg || len(l) != 0 {
		t.Errorf("of none: %d", e)
	}
	d.Down = true
	if l, e := redo.Home(d); e != api.ErrDown || len(l) != 0 {
		t.Errorf("of one that is down: %d", e)
	}
}

// P16.2
func TestFormat(t *testing.T) {
	d := raw(t, 41)
	for i := range d.Safe {
		d.Safe[i] = sector(byte(i + 1))
	}
	d.Fuse = 100
	got, e := redo.Format(d)
	want := with(d, 0, beginning(1), sector(0), sector(0), sector(0), sector(0), sector(0), sector(0), sector(0), sector(0), sector(0))
	want.Fuse = 100 - 11
	if e != api.OK || !same(got, want) {
		t.Errorf("Format: %d", e)
	}
	if got, e := redo.Format(api.Disk{Fuse: 3}); e != api.ErrArg || !same(got, api.Disk{Fuse: 3}) {
		t.Errorf("of none: %d", e)
	}
	// The power goes off behind three writes: they stand in order.
	d.Fuse = 3
	want = d
	want.Fuse, want.Down = 0, true
	want.Loose = []api.Write{{At: 0, Data: beginning(1)}, {At: 1, Data: sector(0)}, {At: 2, Data: sector(0)}}
	if got, e := redo.Format(d); e != api.ErrDown || !same(got, want) {
		t.Errorf("the power goes off: %d", e)
	}
	if got, e := redo.Format(want); e != api.ErrDown || !same(got, want) {
		t.Errorf("the power is off: %d", e)
	}
}

// P16.2: the example.
func TestCommitExample(t *testing.T) {
	d := formatted(t, 40)
	if !redo.Fits(d, 7) || redo.Fits(d, 8) {
		t.Error("7 fit, 8 don't")
	}
	got, e := redo.Commit(d, []api.Write{{At: 2, Data: sector(1)}, {At: 5, Data: sector(2)}})
	if e != api.OK {
		t.Fatalf("%d", e)
	}
	l := home(t, got)
	if n, ok := redo.Epoch(got); n != 2 || !ok || l[2] != sector(1) || l[5] != sector(2) || l[3] != sector(0) {
		t.Error("a commit to homes 2 and 5")
	}
}

// steps are the disks that a commit leaves, one for each operation that it still has: what is written, and when it is flushed.
func steps(d api.Disk, epoch uint64, l []api.Write) []api.Disk {
	log := len(d.Safe) / 4
	sectors := body(epoch, l)
	var out []api.Disk
	put := func(at int, s string) {
		out = append(out, d)
		d.Loose = append(slices.Clone(d.Loose), api.Write{At: at, Data: s})
	}
	flush := func() {
		out = append(out, d)
		for _, w := range d.Loose {
			d = with(d, w.At, w.Data)
		}
		d.Loose = nil
	}
	for i, s := range sectors {
		put(2+i, s)
	}
	flush()
	put(1, end(epoch, l, sectors))
	flush()
	for _, w := range l {
		put(log+w.At, w.Data)
	}
	flush()
	put(0, beginning(epoch+1))
	flush()
	return append(out, d)
}

// P16.2: each operation of a commit, in order.
func TestCommitSteps(t *testing.T) {
	for _, c := range []struct {
		size  int
		epoch uint64
		l     []api.Write
	}{
		{40, 1, writes(2, 2, 3)}, {40, 7, writes(7, 0, 4)}, {32, 1, writes(1, 23, 1)}, {300, 1<<62 - 1, writes(61, 3, 1)}, {300, 3, writes(62, 3, 2)}, {600, 4, writes(123, 100, 1)},
	} {
		d := with(formatted(t, c.size), 0, beginning(c.epoch))
		l := steps(d, c.epoch, c.l)
		for fuse := range l {
			in := d
			in.Fuse = fuse
			want, we := l[fuse], api.ErrDown
			want.Fuse, want.Down = 0, true
			if fuse == len(l)-1 {
				want.Down, we = false, api.OK
			}
			if got, e := redo.Commit(in, c.l); e != we || !same(got, want) {
				t.Fatalf("%d writes, %d operations: %d, %d loose", len(c.l), fuse, e, len(got.Loose))
			}
		}
	}
}

// P16.2: errors, and which comes first.
func TestCommitErrors(t *testing.T) {
	d := formatted(t, 40)
	down := d
	down.Down = true
	broken := raw(t, 40)
	brokenDown := broken
	brokenDown.Down = true
	last := with(d, 0, beginning(1<<62))
	one := writes(1, 0, 1)
	wrong := []api.Write{{At: 30, Data: sector(1)}}
	for i, c := range []struct {
		d api.Disk
		l []api.Write
		e api.Errno
	}{
		{api.Disk{}, nil, api.ErrArg}, {api.Disk{Down: true}, one, api.ErrArg},
		{d, wrong, api.ErrArg}, {d, []api.Write{{At: -1, Data: sector(1)}}, api.ErrArg}, {d, []api.Write{{At: math.MaxInt, Data: sector(1)}}, api.ErrArg}, {d, []api.Write{{At: math.MinInt, Data: sector(1)}}, api.ErrArg},
		{d, append(writes(2, 5, 1), writes(1, 6, 1)...), api.ErrArg}, {d, append(writes(1, 5, 1), writes(1, 4, 1)...), api.ErrArg},
		{d, []api.Write{{At: 0, Data: ""}}, api.ErrArg}, {d, []api.Write{{At: 0, Data: sector(1)[1:]}}, api.ErrArg}, {d, append(writes(1, 0, 1), api.Write{At: 1, Data: sector(1) + "x"}), api.ErrArg},
		{down, wrong, api.ErrArg}, {broken, wrong, api.ErrArg}, {down, one, api.ErrDown}, {down, nil, api.ErrDown}, {brokenDown, nil, api.ErrDown},
		{broken, one, api.ErrBroken}, {broken, nil, api.ErrBroken}, {last, one, api.ErrBroken}, {last, nil, api.ErrBroken}, {with(d, 0, beginning(math.MaxUint64)), nil, api.ErrBroken}, {with(d, 0, beginning(0)), one, api.ErrBroken}, {with(d, 0, fill("HLOG"+be8(1)+"x")), one, api.ErrBroken}, {broken, writes(9, 0, 1), api.ErrBroken},
		{d, writes(8, 0, 1), api.ErrLog}, {d, writes(30, 0, 1), api.ErrLog}, {d, nil, api.OK}, {with(d, 0, beginning(1<<62-1)), nil, api.OK},
	} {
		if got, e := redo.Commit(c.d, c.l); e != c.e || !same(got, c.d) {
			t.Errorf("%d: %d, want %d", i, e, c.e)
		}
		if got, e := redo.Recover(c.d); c.e != api.ErrLog && len(c.l) == 0 && (e != c.e || !same(got, c.d)) {
			t.Errorf("%d, Recover: %d, want %d", i, e, c.e)
		}
	}
	burnt := d
	burnt.Fuse = 0
	if got, e := redo.Commit(burnt, nil); e != api.OK || !same(got, burnt) {
		t.Errorf("without writes no operation is done: %d", e)
	}
	if got, e := redo.Recover(burnt); e != api.OK || !same(got, burnt) {
		t.Errorf("without writes no operation is done: %d", e)
	}
}

// logged is a disk whose log has writes that aren't home, put there by hand.
func logged(t *testing.T, size int, epoch uint64, l []api.Write) api.Disk {
	sectors := body(epoch, l)
	return with(with(formatted(t, size), 0, beginning(epoch), end(epoch, l, sectors)), 2, sectors...)
}

// P16.3: what the log has is brought home, step by step.
func TestRecover(t *testing.T) {
	for _, l := range [][]api.Write{writes(1, 0, 1), writes(7, 0, 4), writes(3, 27, 1)} {
		d := logged(t, 40, 5, l)
		all := steps(d, 5, l)
		all = all[len(all)-1-(len(l)+3):]
		for fuse := range all {
			in := d
			in.Fuse = fuse
			want, we := all[fuse], api.ErrDown
			want.Fuse, want.Down = 0, true
			if fuse == len(all)-1 {
				want.Down, we = false, api.OK
			}
			if got, e := redo.Recover(in); e != we || !same(got, want) {
				t.Fatalf("%d writes, %d operations: %d, %d loose", len(l), fuse, e, len(got.Loose))
			}
		}
	}
	long := writes(62, 1, 3)
	if got, e := redo.Recover(logged(t, 300, 9, long)); e != api.OK || home(t, got)[1+61*3] != long[61].Data {
		t.Errorf("62 writes: %d", e)
	}
}

// P16.3: logs that have none, and such that are broken.
func TestRecoverNoneOrBroken(t *testing.T) {
	l := writes(3, 4, 2)
	d := logged(t, 40, 5, l)
	sectors := body(5, l)
	right := end(5, l, sectors)
	sum := right[16:48]
	for name, s := range map[string]string{
		"another epoch": fill("DONE" + be8(4) + be4(3) + sum), "the next epoch": fill("DONE" + be8(6) + be4(3) + sum), "nothing": sector(0), "another mark": fill("DOne" + right[4:48]), "none of them": fill("DONE" + be8(5) + be4(0) + sum), "more than fit": fill("DONE" + be8(5) + be4(8) + sum), "far more": fill("DONE" + be8(5) + "\xff\xff\xff\xff" + sum), "the mark elsewhere": fill(" " + right[:48]),
	} {
		in := with(d, 1, s)
		if got, e := redo.Recover(in); e != api.OK || !same(got, in) {
			t.Errorf("%s: %d", name, e)
		}
	}
	bad := func(l []api.Write) api.Disk { return logged(t, 40, 5, l) }
	for name, in := range map[string]api.Disk{
		"another sum": with(d, 1, fill(right[:47]+string([]byte{right[47] ^ 1}))), "a byte behind": with(d, 1, right[:255]+"x"), "another number": with(d, 1, fill("DONE"+be8(5)+be4(2)+sum)), "another place": with(d, 2, fill(be8(5)+be4(3)+be4(4)+be4(6)+be4(9))), "other bytes": with(d, 5, sector(9)), "the body lacks": with(d, 2, sector(0), sector(0), sector(0), sector(0)),
		"places that don't rise": bad([]api.Write{l[1], l[0]}), "a place twice": bad([]api.Write{l[0], l[0]}), "no home": bad(writes(1, 30, 1)), "no home at all": bad(writes(1, -1, 1)), "the last is no home": bad(writes(3, 28, 1)),
	} {
		if got, e := redo.Recover(in); e != api.ErrBroken || !same(got, in) {
			t.Errorf("%s: %d", name, e)
		}
	}
	// What was written last to sector 1 counts, flushed or not.
	in := with(d, 1, sector(0))
	in.Loose = []api.Write{{At: 1, Data: right}}
	if got, e := redo.Recover(in); e != api.OK || home(t, got)[4] != l[0].Data {
		t.Errorf("an end that isn't safe yet: %d", e)
	}
}

// P16.3: bytes that were written at a home aren't taken for an end.
func TestNoFalseEnd(t *testing.T) {
	l := []api.Write{{At: 0, Data: beginning(2)}, {At: 1, Data: end(2, nil, nil)}, {At: 2, Data: end(1, nil, nil)}}
	d := formatted(t, 40)
	for i := 0; i < 3; i++ {
		var e api.Errno
		d, e = redo.Commit(d, l)
		if e != api.OK {
			t.Fatalf("%d", e)
		}
		if got, e := redo.Recover(d); e != api.OK || !same(got, d) {
			t.Errorf("%d", e)
		}
	}
}

// apply is home with the writes.
func apply(h []string, l []api.Write) []string {
	h = slices.Clone(h)
	for _, w := range l {
		h[w.At] = w.Data
	}
	return h
}

// some are fates for a crash.
func some(r *rand.Rand) []uint8 {
	fates := make([]uint8, r.Intn(20))
	r.Read(fates)
	return fates
}

// recovered is a disk on which the power came back, and went off again in recoveries.
func recovered(t *testing.T, r *rand.Rand, d api.Disk) api.Disk {
	t.Helper()
	for i := 0; ; i++ {
		fuse := r.Intn(15)
		if i > 4 {
			fuse = -1
		}
		d, _ = block.Crash(d, some(r), fuse)
		var e api.Errno
		d, e = redo.Recover(d)
		if e == api.OK {
			return d
		}
		if e != api.ErrDown || !d.Down {
			t.Fatalf("Recover: %d", e)
		}
	}
}

// P16.4: wherever the power goes off, all writes are there or none.
func TestPower(t *testing.T) {
	r := rand.New(rand.NewSource(16))
	start, e := redo.Commit(formatted(t, 40), writes(7, 0, 3))
	if e != api.OK {
		t.Fatal(e)
	}
	for _, l := range [][]api.Write{writes(1, 3, 1), writes(4, 1, 7), writes(7, 0, 4)} {
		was := home(t, start)
		will := apply(was, l)
		told, kept := 0, 0
		for fuse := 0; fuse < 25; fuse++ {
			for try := 0; try < 40; try++ {
				d := start
				d.Fuse = fuse
				d, e := redo.Commit(d, l)
				if e != api.OK && e != api.ErrDown {
					t.Fatalf("Commit: %d", e)
				}
				d = recovered(t, r, d)
				got := home(t, d)
				all := slices.Equal(got, will)
				if !all && !slices.Equal(got, was) || e == api.OK && !all {
					t.Fatalf("%d operations: neither all nor none", fuse)
				}
				if e == api.OK {
					told++
				} else if all {
					kept++
				}
				// What is recovered twice is recovered once.
				d.Fuse = 0
				if again, e := redo.Recover(d); e != api.OK || !same(again, d) {
					t.Fatalf("a second recovery: %d", e)
				}
				// And the next commit goes on from there.
				d.Fuse = -1
				next := writes(2, 10, 1)
				d, e = redo.Commit(d, next)
				if e != api.OK || !slices.Equal(home(t, d), apply(got, next)) {
					t.Fatalf("the next commit: %d", e)
				}
			}
		}
		if told == 0 || kept == 0 {
			t.Errorf("%d told, %d kept: too few to say", told, kept)
		}
	}
}

// What is handed in isn't changed.
func TestUnchanged(t *testing.T) {
	d := formatted(t, 40)
	was := with(d, 0, d.Safe[0])
	l := append(make([]api.Write, 0, 9), writes(3, 0, 1)...)
	redo.Commit(d, l)
	if !same(d, was) || !slices.Equal(l, writes(3, 0, 1)) || l[:4][3] != (api.Write{}) {
		t.Error("something was changed")
	}
}
