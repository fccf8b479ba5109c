package block_test

import (
	"math"
	"math/rand"
	"reflect"
	"slices"
	"strings"
	"testing"

	"holdall/api"
	"holdall/block"
)

func sector(b byte) string { return strings.Repeat(string([]byte{b}), 256) }

func fresh(t *testing.T, n int) api.Disk {
	t.Helper()
	d, e := block.New(n)
	if e != api.OK {
		t.Fatalf("New of %d: %d", n, e)
	}
	return d
}

// same tells whether two disks are, lists that hold nothing alike.
func same(a, b api.Disk) bool {
	return slices.Equal(a.Safe, b.Safe) && slices.Equal(a.Loose, b.Loose) && a.Fuse == b.Fuse && a.Down == b.Down
}

func put(t *testing.T, d api.Disk, at int, b byte) api.Disk {
	t.Helper()
	d, e := block.Put(d, at, sector(b))
	if e != api.OK {
		t.Fatalf("Put at %d: %d", at, e)
	}
	return d
}

func flush(t *testing.T, d api.Disk) api.Disk {
	t.Helper()
	d, e := block.Flush(d)
	if e != api.OK {
		t.Fatalf("Flush: %d", e)
	}
	return d
}

func crash(t *testing.T, d api.Disk, fuse int, fates ...uint8) api.Disk {
	t.Helper()
	d, e := block.Crash(d, fates, fuse)
	if e != api.OK {
		t.Fatalf("Crash: %d", e)
	}
	return d
}

func expect(t *testing.T, d api.Disk, at int, b byte) {
	t.Helper()
	if s, e := block.Get(d, at); s != sector(b) || e != api.OK {
		t.Errorf("sector %d: %.3q, %d, want %d", at, s, e, b)
	}
}

// wrong are disks that may not be.
func wrong(t *testing.T) []api.Disk {
	l := []api.Disk{{}, {Safe: fresh(t, 32).Safe[:31]}, {Safe: append(fresh(t, 2048).Safe, sector(0))}, {Down: true}}
	for _, s := range []string{"", sector(0)[1:], sector(0) + "\x00"} {
		for _, at := range []int{0, 31} {
			d := fresh(t, 32)
			d.Safe[at] = s
			l = append(l, d)
		}
		d := fresh(t, 32)
		d.Loose = []api.Write{{At: 1, Data: sector(1)}, {At: 2, Data: s}}
		l = append(l, d)
	}
	for _, at := range []int{-1, 32, math.MaxInt, math.MinInt} {
		d := fresh(t, 32)
		d.Loose = []api.Write{{At: at, Data: sector(1)}}
		l = append(l, d)
		d.Down = true
		l = append(l, d)
	}
	return l
}

// P15.1
func TestNewRight(t *testing.T) {
	for _, n := range []int{32, 33, 200, 2048} {
		d := fresh(t, n)
		if len(d.Safe) != n || len(d.Loose) != 0 || d.Fuse != -1 || d.Down || !block.Right(d) {
			t.Errorf("%d sectors", n)
		}
		for _, s := range d.Safe {
			if s != sector(0) {
				t.Fatal("a sector isn't bytes 0")
			}
		}
	}
	for _, n := range []int{31, 2049, 0, -1, math.MaxInt, math.MinInt} {
		if d, e := block.New(n); e != api.ErrArg || !reflect.DeepEqual(d, api.Disk{}) {
			t.Errorf("%d sectors: %d", n, e)
		}
	}
	for i, d := range wrong(t) {
		if block.Right(d) {
			t.Errorf("%d may be", i)
		}
	}
	d := fresh(t, 32)
	d.Loose = []api.Write{{At: 0, Data: sector(1)}, {At: 31, Data: sector(2)}, {At: 0, Data: sector(3)}}
	d.Down, d.Fuse = true, math.MinInt
	if !block.Right(d) {
		t.Error("a disk that is down may be")
	}
}

// P15.1: errors, and which comes first; the disk is left as it is.
func TestErrors(t *testing.T) {
	check := func(what string, d api.Disk, at int, data string, e api.Errno, flushed bool) {
		t.Helper()
		if got, ge := block.Put(d, at, data); ge != e || !same(got, d) {
			t.Errorf("%s, Put: %d, want %d", what, ge, e)
		}
		if s, ge := block.Get(d, at); len(data) == 256 && (ge != e || s != "") {
			t.Errorf("%s, Get: %d, want %d", what, ge, e)
		}
		if got, ge := block.Flush(d); flushed && (ge != e || !same(got, d)) {
			t.Errorf("%s, Flush: %d, want %d", what, ge, e)
		}
	}
	for _, d := range wrong(t) {
		check("wrong", d, 0, sector(1), api.ErrArg, true)
		if got, e := block.Crash(d, nil, 3); e != api.ErrArg || !same(got, d) {
			t.Errorf("Crash: %d", e)
		}
	}
	d := put(t, fresh(t, 32), 3, 9)
	d.Fuse = 5
	for _, at := range []int{-1, 32, math.MaxInt, math.MinInt} {
		check("place", d, at, sector(1), api.ErrArg, false)
	}
	for _, s := range []string{"", sector(1)[1:], sector(1) + "x"} {
		check("size", d, 3, s, api.ErrArg, false)
	}
	d.Fuse = 0
	check("a wrong place with the power about to go", d, 32, sector(1), api.ErrArg, false)
	d.Down = true
	check("down", d, 3, sector(1), api.ErrDown, true)
	check("down, a wrong place", d, 99, sector(1), api.ErrDown, true)
	check("down, a wrong size", d, 3, "", api.ErrDown, true)
}

// P15.1: what is written is read, flushed or not.
func TestPutGetFlush(t *testing.T) {
	d := put(t, put(t, put(t, fresh(t, 32), 3, 1), 31, 7), 3, 2)
	want := []api.Write{{At: 3, Data: sector(1)}, {At: 31, Data: sector(7)}, {At: 3, Data: sector(2)}}
	if !slices.Equal(d.Loose, want) || !slices.Equal(d.Safe, fresh(t, 32).Safe) || d.Fuse != -1 {
		t.Errorf("%d writes", len(d.Loose))
	}
	expect(t, d, 3, 2)
	expect(t, d, 31, 7)
	expect(t, d, 0, 0)
	d = flush(t, d)
	if len(d.Loose) != 0 || d.Safe[3] != sector(2) || d.Safe[31] != sector(7) || d.Safe[0] != sector(0) || d.Fuse != -1 {
		t.Error("Flush")
	}
	expect(t, d, 3, 2)
	if again := flush(t, d); !same(again, d) {
		t.Error("Flush of nothing")
	}
}

// P15.1: operations, one by one, till the power goes off; reading is none.
func TestFuse(t *testing.T) {
	d := fresh(t, 32)
	d.Fuse = 3
	d = put(t, d, 1, 1)
	expect(t, d, 1, 1)
	if d.Fuse != 2 {
		t.Errorf("fuse %d", d.Fuse)
	}
	d = flush(t, d)
	if d.Fuse != 1 {
		t.Errorf("fuse %d", d.Fuse)
	}
	d = put(t, d, 2, 2)
	if d.Fuse != 0 || d.Down {
		t.Errorf("fuse %d", d.Fuse)
	}
	expect(t, d, 2, 2)
	want := d
	want.Down = true
	if got, e := block.Put(d, 3, sector(3)); e != api.ErrDown || !same(got, want) {
		t.Errorf("Put: %d", e)
	}
	if got, e := block.Flush(d); e != api.ErrDown || !same(got, want) {
		t.Errorf("Flush: %d", e)
	}
	d.Fuse = math.MinInt
	if d = put(t, d, 3, 3); d.Fuse != math.MinInt {
		t.Errorf("fuse %d", d.Fuse)
	}
	d.Fuse = math.MaxInt
	if d = flush(t, d); d.Fuse != math.MaxInt-1 {
		t.Errorf("fuse %d", d.Fuse)
	}
}

// P15.2: the example, and each fate.
func TestCrash(t *testing.T) {
	d := put(t, put(t, fresh(t, 32), 3, 1), 3, 2)
	for fate, want := range map[uint8]byte{0: 0, 1: 1, 2: 2, 3: 0, 4: 1, 5: 2, 254: 2, 255: 0} {
		got := crash(t, d, 7, fate)
		if got.Fuse != 7 || got.Down || len(got.Loose) != 0 || got.Safe[3] != sector(want) {
			t.Errorf("fate %d: %.3q", fate, got.Safe[3])
		}
	}
	if got := crash(t, d, -1); got.Safe[3] != sector(0) || got.Fuse != -1 {
		t.Error("without fates")
	}
	d.Down = true
	if got := crash(t, d, 0, 1, 1, 1); got.Down || got.Fuse != 0 || got.Safe[3] != sector(1) {
		t.Error("of a disk that is down")
	}
}

// P15.2: fates go to the sectors that were written, rising, not to the writes.
func TestCrashSectors(t *testing.T) {
	d := fresh(t, 40)
	d = flush(t, put(t, put(t, d, 5, 50), 6, 60))
	for _, w := range [][2]byte{{9, 1}, {5, 2}, {9, 3}, {20, 4}, {5, 5}, {5, 6}, {39, 7}} {
		d = put(t, d, int(w[0]), w[1])
	}
	for _, c := range []struct {
		fates []uint8
		want  [4]byte // of 5, 9, 20, 39
	}{
		{nil, [4]byte{50, 0, 0, 0}}, {[]uint8{1}, [4]byte{2, 0, 0, 0}}, {[]uint8{2, 1}, [4]byte{5, 1, 0, 0}}, {[]uint8{3, 2, 1, 1}, [4]byte{6, 3, 4, 7}}, {[]uint8{4, 3, 2, 2}, [4]byte{50, 0, 0, 0}}, {[]uint8{0, 0, 0, 1}, [4]byte{50, 0, 0, 7}}, {[]uint8{0, 0, 1, 0, 9, 9}, [4]byte{50, 0, 4, 0}}, {[]uint8{7, 5, 255, 254}, [4]byte{6, 3, 4, 0}},
	} {
		got := crash(t, d, 0, c.fates...)
		want := flush(t, d)
		for i, at := range []int{5, 9, 20, 39} {
			want.Safe[at] = sector(c.want[i])
		}
		want.Fuse = 0
		if !same(got, want) {
			t.Errorf("fates %v: %.1q %.1q %.1q %.1q", c.fates, got.Safe[5], got.Safe[9], got.Safe[20], got.Safe[39])
		}
	}
}

// P15.3: what was flushed outlives each crash, but where it was written over; and disks are values.
func TestValues(t *testing.T) {
	r := rand.New(rand.NewSource(15))
	d := fresh(t, 32)
	model := make([]byte, 32)         // as it reads
	safe := make([]map[byte]bool, 32) // what a crash may leave
	for i := range safe {
		safe[i] = map[byte]bool{0: true}
	}
	for i := 0; i < 2000; i++ {
		before := api.Disk{Safe: slices.Clone(d.Safe), Loose: slices.Clone(d.Loose), Fuse: d.Fuse, Down: d.Down}
		old := d
		switch r.Intn(12) {
		case 0:
			d = flush(t, d)
			for at := range safe {
				safe[at] = map[byte]bool{model[at]: true}
			}
		case 1:
			fates := make([]uint8, r.Intn(9))
			r.Read(fates)
			d = crash(t, d, -1, fates...)
			for at := range safe {
				got := d.Safe[at][0]
				if !safe[at][got] || d.Safe[at] != sector(got) {
					t.Fatalf("sector %d has %d", at, got)
				}
				model[at], safe[at] = got, map[byte]bool{got: true}
			}
		default:
			at, b := r.Intn(32), byte(r.Intn(256))
			d = put(t, d, at, b)
			model[at] = b
			safe[at][b] = true
		}
		for at, b := range model {
			expect(t, d, at, b)
		}
		if !same(old, before) {
			t.Fatal("a disk was changed that was handed in")
		}
	}
}

// Two disks that come from one don't share spare room.
func TestSpareRoom(t *testing.T) {
	d := fresh(t, 32)
	d.Loose = make([]api.Write, 0, 10)
	a, b := put(t, d, 1, 1), put(t, d, 2, 2)
	expect(t, a, 1, 1)
	expect(t, a, 2, 0)
	expect(t, b, 2, 2)
	if d.Loose[:1][0] != (api.Write{}) {
		t.Error("the spare room was written")
	}
	fates := []uint8{1, 2, 3}
	crash(t, a, 0, fates...)
	if !slices.Equal(fates, []uint8{1, 2, 3}) {
		t.Error("the fates were changed")
	}
}
