package octal_test

import (
	"math"
	"math/big"
	"math/rand"
	"strconv"
	"strings"
	"testing"

	"holdall/api"
	"holdall/octal"
)

// numbers are edges of digits and bytes, and others.
func numbers() []int {
	l := []int{0, 1, 7, 8, 9, 63, 64, 0644, 0755, 07777, 10000, math.MaxInt, math.MaxInt - 1}
	for i := 3; i < 63; i++ {
		l = append(l, 1<<i-1, 1<<i, 1<<i+1)
	}
	r := rand.New(rand.NewSource(1))
	for i := 0; i < 50; i++ {
		l = append(l, r.Int()>>(i%60))
	}
	return l
}

// P8.1: the last so many digits, and whether they are all.
func TestOctal(t *testing.T) {
	for _, n := range numbers() {
		all := strconv.FormatInt(int64(n), 8)
		for digits := 0; digits <= 22; digits++ {
			want := strings.Repeat("0", 22) + all
			want = want[len(want)-digits:]
			whole := len(all) <= digits || n == 0
			if got, ok := octal.Octal(n, digits); got != want || ok != whole {
				t.Errorf("%d in %d digits: %q, %v", n, digits, got, ok)
			}
		}
	}
	for _, c := range [][2]int{{-1, 4}, {math.MinInt, 4}, {-1, 0}, {0, -1}, {5, math.MinInt}, {0, 23}, {5, 23}, {5, 1 << 40}, {5, math.MaxInt}, {-1, -1}} {
		if got, ok := octal.Octal(c[0], c[1]); got != "" || ok {
			t.Errorf("%d in %d digits: %q, %v", c[0], c[1], got, ok)
		}
	}
	if got, ok := octal.Octal(0644, 4); got != "0644" || !ok {
		t.Errorf("0644: %q, %v", got, ok)
	}
	if got, ok := octal.Octal(010644, 4); got != "0644" || ok {
		t.Errorf("10644: %q, %v", got, ok)
	}
}

// put is what the chapter says of a width that may be.
func put(n, width int) (string, api.Errno) {
	if s := strconv.FormatInt(int64(n), 8); len(s) < width {
		return strings.Repeat("0", width-1-len(s)) + s + "\x00", api.OK
	}
	b := big.NewInt(int64(n)).Bytes()
	if len(b) >= width {
		return "", api.ErrLong
	}
	return "\x80" + strings.Repeat("\x00", width-1-len(b)) + string(b), api.OK
}

// P8.1
func TestPut(t *testing.T) {
	for _, n := range numbers() {
		for _, width := range []int{8, 12} {
			want, e := put(n, width)
			if got, ge := octal.Put(n, width); got != want || ge != e {
				t.Errorf("%d in %d bytes: %q, %d", n, width, got, ge)
			}
		}
	}
	for _, c := range []struct {
		n, width int
		s        string
		e        api.Errno
	}{
		{8, 8, "0000010\x00", api.OK}, {1 << 21, 8, "\x80\x00\x00\x00\x00\x20\x00\x00", api.OK}, {1<<21 - 1, 8, "7777777\x00", api.OK},
		{1<<33 - 1, 12, "77777777777\x00", api.OK}, {1 << 33, 12, "\x80\x00\x00\x00\x00\x00\x00\x02\x00\x00\x00\x00", api.OK},
		{1<<56 - 1, 8, "\x80\xff\xff\xff\xff\xff\xff\xff", api.OK}, {1 << 56, 8, "", api.ErrLong}, {math.MaxInt, 8, "", api.ErrLong},
		{math.MaxInt, 12, "\x80\x00\x00\x00\x7f\xff\xff\xff\xff\xff\xff\xff", api.OK},
		{-1, 8, "", api.ErrArg}, {math.MinInt, 12, "", api.ErrArg}, {0, 7, "", api.ErrArg}, {0, 9, "", api.ErrArg}, {0, 0, "", api.ErrArg}, {0, -8, "", api.ErrArg},
		{0, 11, "", api.ErrArg}, {0, 13, "", api.ErrArg}, {1 << 60, 10, "", api.ErrArg}, {0, math.MaxInt, "", api.ErrArg}, {0, math.MinInt, "", api.ErrArg}, {-1, 3, "", api.ErrArg},
	} {
		if got, e := octal.Put(c.n, c.width); got != c.s || e != c.e {
			t.Errorf("%d in %d bytes: %q, %d", c.n, c.width, got, e)
		}
	}
}

// P8.2
func TestGet(t *testing.T) {
	zeros := strings.Repeat("0", 5000)
	for _, c := range []struct {
		s string
		n int
		e api.Errno
	}{
		{" 12 \x00", 10, api.OK}, {"0", 0, api.OK}, {"0000010\x00", 8, api.OK}, {"7", 7, api.OK}, {"   17", 15, api.OK}, {"12\x00\x00 \x00 ", 10, api.OK}, {"000644 \x00", 0644, api.OK},
		{zeros + "12", 10, api.OK}, {strings.Repeat(" ", 5000) + "1" + strings.Repeat("\x00", 5000), 1, api.OK},
		{"777777777777777777777", math.MaxInt, api.OK}, {"1000000000000000000000", 0, api.ErrLong}, {zeros + "777777777777777777777\x00", math.MaxInt, api.OK}, {zeros + "1000000000000000000000", 0, api.ErrLong},
		// What makes it too great is told ahead of what stands behind.
		{"1000000000000000000000x", 0, api.ErrLong}, {"10000000000000000000008", 0, api.ErrLong}, {"777777777777777777777x", 0, api.ErrForm}, {"777777777777777777777\x001", 0, api.ErrForm},
		{strings.Repeat("7", 500), 0, api.ErrLong},
		{"", 0, api.ErrForm}, {" ", 0, api.ErrForm}, {"\x00", 0, api.ErrForm}, {"        ", 0, api.ErrForm}, {"\x00\x00", 0, api.ErrForm}, {"x", 0, api.ErrForm}, {"8", 0, api.ErrForm}, {"9", 0, api.ErrForm}, {"/", 0, api.ErrForm},
		{"18", 0, api.ErrForm}, {"1 2", 0, api.ErrForm}, {"1\x002", 0, api.ErrForm}, {"\x001", 0, api.ErrForm}, {"\t1", 0, api.ErrForm}, {"1\t", 0, api.ErrForm}, {"1\n", 0, api.ErrForm}, {"-1", 0, api.ErrForm}, {"+1", 0, api.ErrForm}, {"0x1", 0, api.ErrForm},
		{" \x80", 0, api.ErrForm}, {"1\x80", 0, api.ErrForm}, {"\xff\x01", 0, api.ErrForm}, {"\x81\x01", 0, api.ErrForm},
		{"\x80", 0, api.OK}, {"\x80\x01", 1, api.OK}, {"\x80\x01\x00", 256, api.OK}, {"\x80\x80", 128, api.OK}, {"\x80\xff\xff", 65535, api.OK}, {"\x80 1", 0x2031, api.OK},
		{"\x80\x7f" + strings.Repeat("\xff", 7), math.MaxInt, api.OK}, {"\x80\x80" + strings.Repeat("\x00", 7), 0, api.ErrLong}, {"\x80" + strings.Repeat("\xff", 8), 0, api.ErrLong}, {"\x80\x01" + strings.Repeat("\x00", 8), 0, api.ErrLong},
		{"\x80" + strings.Repeat("\x00", 5000) + "\x09", 9, api.OK}, {"\x80\x01" + strings.Repeat("\x00", 5000), 0, api.ErrLong},
	} {
		if n, e := octal.Get(c.s); n != c.n || e != c.e {
			t.Errorf("%.40q: %d, %d", c.s, n, e)
		}
	}
}

// P8.2: each byte behind digits, ahead of them, and alone.
func TestGetBytes(t *testing.T) {
	for b := 0; b < 256; b++ {
		s := string([]byte{byte(b)})
		digit := b >= '0' && b <= '7'
		if n, e := octal.Get("1" + s); digit && (n != 8+b-'0' || e != api.OK) || !digit && (b == 0 || b == ' ') && (n != 1 || e != api.OK) || !digit && b != 0 && b != ' ' && (n != 0 || e != api.ErrForm) {
			t.Errorf("1 and byte %d: %d, %d", b, n, e)
		}
		want := api.ErrForm
		if digit || b == ' ' || b == 128 {
			want = api.OK
		}
		if _, e := octal.Get(s + "1"); e != want {
			t.Errorf("byte %d and 1: %d", b, e)
		}
	}
}

// P8.3: what was put is got.
func TestThereAndBack(t *testing.T) {
	for _, n := range numbers() {
		for _, width := range []int{8, 12} {
			s, e := octal.Put(n, width)
			if e != api.OK {
				continue
			}
			if len(s) != width {
				t.Errorf("%d in %d bytes has %d", n, width, len(s))
			}
			if got, e := octal.Get(s); got != n || e != api.OK {
				t.Errorf("%d in %d bytes: %d, %d", n, width, got, e)
			}
		}
	}
}
