package zxid

import (
	"math"
	"math/big"
	"regexp"
	"strings"
	"testing"

	"aviary/api"
)

const (
	top  = 1<<31 - 1 // of an epoch, and of a count
	last = 1<<62 - 1
)

// textForm is the form of the document, told a second time in another language.
var textForm = regexp.MustCompile(`\A(0|[1-9][0-9]{0,9})\.(0|[1-9][0-9]{0,9})\z`)

// parts is numbers about the bounds of an epoch and a count, most of them within.
func parts() []int {
	return []int{0, 1, 2, 3, 9, 10, 11, 99, 100, 65535, 65536, 123456789, 999999999, 1000000000, 1<<30 - 1, 1 << 30, top - 1, top,
		top + 1, top + 2, 1<<32 - 1, 1 << 32, 1<<32 + 1, 9999999999, last, last + 1, math.MaxInt - 1, math.MaxInt, -1, -2, -top, -top - 1, -1 << 32, math.MinInt, math.MinInt + 1}
}

func within(n int) bool { return 0 <= n && n <= top }

// bad is numbers that are no zxids.
func bad() []int {
	return []int{-1, -2, -top, -top - 1, -1 << 32, -1 << 61, -1 << 62, -1<<62 - 1, math.MinInt + 1, math.MinInt,
		last + 1, last + 2, 1<<62 + top, 1<<62 + 1<<31, 3 << 61, math.MaxInt - top, math.MaxInt - 1, math.MaxInt}
}

// all is each epoch with each count of parts that are within their bounds, and the zxid by multiplication.
func all(do func(epoch, count, z int)) {
	for _, epoch := range parts() {
		for _, count := range parts() {
			if within(epoch) && within(count) {
				do(epoch, count, epoch*2147483648+count)
			}
		}
	}
}

// P2.1: the limits are those of the document.
func TestLimits(t *testing.T) {
	if api.MaxEpoch != top || api.MaxCount != top {
		t.Errorf("limits: %d, %d", api.MaxEpoch, api.MaxCount)
	}
}

// P2.1: every pair about the bounds; out of them in one or in both is ErrRange, and no number.
func TestMake(t *testing.T) {
	for _, epoch := range parts() {
		for _, count := range parts() {
			want, code := 0, api.ErrRange
			if within(epoch) && within(count) {
				want, code = epoch*2147483648+count, api.OK
			}
			if z, e := Make(epoch, count); z != want || e != code {
				t.Errorf("Make(%d, %d): %d, %d", epoch, count, z, e)
			}
		}
	}
}

// P2.1: some numbers written out.
func TestMakeExamples(t *testing.T) {
	for _, x := range [][3]int{
		{0, 0, 0},
		{0, 1, 1},
		{0, top, 2147483647},
		{1, 0, 2147483648},
		{1, 1, 2147483649},
		{2, 7, 4294967303},
		{top, 0, 4611686016279904256},
		{top, top, 4611686018427387903},
	} {
		if z, e := Make(x[0], x[1]); z != x[2] || e != api.OK {
			t.Errorf("Make(%d, %d): %d, %d", x[0], x[1], z, e)
		}
	}
}

// P2.1: the greatest zxid is 2^62 - 1, the least is 0.
func TestGood(t *testing.T) {
	for _, z := range []int{0, 1, top, top + 1, 1 << 32, 1 << 61, 1<<61 - 1, last - 1, last} {
		if !Good(z) {
			t.Errorf("Good(%d): false", z)
		}
	}
	for _, z := range bad() {
		if Good(z) {
			t.Errorf("Good(%d): true", z)
		}
	}
	for shift := range 64 {
		if z := 1 << shift; Good(z) != (shift < 62) || !Good(z-1) && shift < 63 {
			t.Errorf("Good about %d: %v, %v", z, Good(z), Good(z-1))
		}
	}
}

// P2.1, P2.2: the parts are those that a zxid is made of.
func TestParts(t *testing.T) {
	all(func(epoch, count, z int) {
		if !Good(z) || Epoch(z) != epoch || Count(z) != count {
			t.Errorf("%d: %v, %d, %d", z, Good(z), Epoch(z), Count(z))
		}
	})
}

// P2.2: what is not good has noughts as its parts.
func TestPartsOfBad(t *testing.T) {
	for _, z := range bad() {
		if Epoch(z) != 0 || Count(z) != 0 {
			t.Errorf("%d: %d, %d", z, Epoch(z), Count(z))
		}
	}
}

// P2.3: one more as the count, never another epoch.
func TestNext(t *testing.T) {
	all(func(epoch, count, z int) {
		want, code := z+1, api.OK
		if count == top {
			want, code = 0, api.ErrFull
		}
		n, e := Next(z)
		if n != want || e != code {
			t.Errorf("Next(%d): %d, %d", z, n, e)
		}
		if e == api.OK && (Epoch(n) != epoch || Count(n) != count+1) {
			t.Errorf("Next(%d): %d.%d", z, Epoch(n), Count(n))
		}
	})
}

// P2.3: the epoch behind, whatever the count, with count 0.
func TestBegin(t *testing.T) {
	all(func(epoch, count, z int) {
		want, code := (epoch+1)*2147483648, api.OK
		if epoch == top {
			want, code = 0, api.ErrFull
		}
		n, e := Begin(z)
		if n != want || e != code {
			t.Errorf("Begin(%d): %d, %d", z, n, e)
		}
		if e == api.OK && (Epoch(n) != epoch+1 || Count(n) != 0) {
			t.Errorf("Begin(%d): %d.%d", z, Epoch(n), Count(n))
		}
	})
}

// P2.3: what is not good is ErrRange, also where its bits would say that it is full.
func TestNextAndBeginOfBad(t *testing.T) {
	for _, z := range bad() {
		if n, e := Next(z); n != 0 || e != api.ErrRange {
			t.Errorf("Next(%d): %d, %d", z, n, e)
		}
		if n, e := Begin(z); n != 0 || e != api.ErrRange {
			t.Errorf("Begin(%d): %d, %d", z, n, e)
		}
	}
}

// P2.3: each call has its own way to be full.
func TestFullApart(t *testing.T) {
	if n, e := Begin(top); n != top+1 || e != api.OK {
		t.Errorf("Begin of a full count: %d, %d", n, e)
	}
	if n, e := Next(top << 31); n != top<<31+1 || e != api.OK {
		t.Errorf("Next in the last epoch: %d, %d", n, e)
	}
	if n, e := Next(last - 1); n != last || e != api.OK {
		t.Errorf("Next to the last zxid: %d, %d", n, e)
	}
}

// P2.4: some texts written out.
func TestTextExamples(t *testing.T) {
	for s, z := range map[string]int{
		"0.0":                   0,
		"0.1":                   1,
		"1.0":                   1 << 31,
		"1.1":                   1<<31 + 1,
		"10.100":                10<<31 + 100,
		"0.2147483647":          top,
		"2147483647.0":          top << 31,
		"2147483647.2147483646": last - 1,
		"2147483647.2147483647": last,
	} {
		if got, e := Text(z); got != s || e != api.OK {
			t.Errorf("Text(%d): %q, %d", z, got, e)
		}
		if got, e := Read(s); got != z || e != api.OK {
			t.Errorf("Read(%q): %d, %d", s, got, e)
		}
	}
}

// P2.4: Read takes what Text tells.
func TestTextThenRead(t *testing.T) {
	all(func(epoch, count, z int) {
		s, e := Text(z)
		if e != api.OK || !textForm.MatchString(s) {
			t.Errorf("Text(%d): %q, %d", z, s, e)
		}
		if again, e := Read(s); again != z || e != api.OK {
			t.Errorf("Read(%q): %d, %d", s, again, e)
		}
	})
}

// P2.4
func TestTextOfBad(t *testing.T) {
	for _, z := range bad() {
		if s, e := Text(z); s != "" || e != api.ErrRange {
			t.Errorf("Text(%d): %q, %d", z, s, e)
		}
	}
}

// asked is what Read must answer, by the form and by numbers without bounds.
func asked(s string) (int, api.Errno) {
	pair := textForm.FindStringSubmatch(s)
	if pair == nil {
		return 0, api.ErrForm
	}
	z := new(big.Int)
	for _, text := range pair[1:] {
		n, _ := new(big.Int).SetString(text, 10)
		if n.Cmp(big.NewInt(top)) > 0 {
			return 0, api.ErrRange
		}
		z.Lsh(z, 31).Add(z, n)
	}
	return int(z.Int64()), api.OK
}

// halves is texts to stand at either side of a dot, most of them no good ones.
func halves() []string {
	return []string{"0", "1", "9", "10", "42", "999999999", "1000000000", "2147483646", "2147483647",
		"2147483648", "2147483650", "2999999999", "4294967296", "4294967297", "9999999999",
		"10000000000", "12345678901", "00000000000", "18446744073709551616", "18446744073709551617", "9223372036854775808",
		"", "00", "01", "007", "0000000000", "0000000001", "0999999999", "02147483647",
		"+1", "-1", "-0", "+0", " 1", "1 ", "1\n", "\n1", "1_0", "0x1", "0b1", "1e3", "a", "1a", "a1", "12345678:9", "/", ":", "1/", "1:",
		"\x00", "1\x00", "٣", "1٣", "\xff", "½", "1,0", ".", ".1", "1.", "1.1", "NaN", "Inf",
		strings.Repeat("1", 1<<16), strings.Repeat("0", 1<<16)}
}

// P2.4: each half with each, and with other things than a dot between.
func TestRead(t *testing.T) {
	for _, left := range halves() {
		for _, right := range halves() {
			for _, between := range []string{".", "", "..", ",", ":", " . ", "\x00", "．"} {
				s := left + between + right
				want, code := asked(s)
				if z, e := Read(s); z != want || e != code {
					t.Errorf("Read(%.60q): %d, %d; asked for %d, %d", s, z, e, want, code)
				}
			}
		}
	}
}

// P2.4: all short texts of digits, dots, and a sign.
func TestReadShortTexts(t *testing.T) {
	texts := []string{""}
	from := 0
	for range 6 {
		till := len(texts)
		for _, s := range texts[from:till] {
			for _, c := range "012.-" {
				texts = append(texts, s+string(c))
			}
		}
		from = till
	}
	for _, s := range texts {
		want, code := asked(s)
		if z, e := Read(s); z != want || e != code {
			t.Errorf("Read(%q): %d, %d; asked for %d, %d", s, z, e, want, code)
		}
	}
}

// P2.4: every byte in the place of a digit and of the dot.
func TestReadBytes(t *testing.T) {
	for b := range 256 {
		c := string([]byte{byte(b)})
		for _, s := range []string{c + ".5", "1" + c + ".5", "5." + c, "5." + c + "1", "5.1" + c, "5" + c + "5", c} {
			want, code := asked(s)
			if z, e := Read(s); z != want || e != code {
				t.Errorf("Read(%q): %d, %d; asked for %d, %d", s, z, e, want, code)
			}
		}
	}
}

// P2.4: where a wrong form and a number out of its bounds both apply, the form comes first.
func TestReadFormFirst(t *testing.T) {
	for _, s := range []string{"2147483648.", ".2147483648", "2147483648.01", "01.2147483648", "9999999999.x", "x.9999999999", "9999999999", "9999999999.10000000000", "2147483648.1.1", "4294967296.00"} {
		if z, e := Read(s); z != 0 || e != api.ErrForm {
			t.Errorf("Read(%q): %d, %d", s, z, e)
		}
	}
	for _, s := range []string{"2147483648.0", "0.2147483648", "2147483648.2147483648", "9999999999.9999999999", "4294967296.1", "1.4294967297"} {
		if z, e := Read(s); z != 0 || e != api.ErrRange {
			t.Errorf("Read(%q): %d, %d", s, z, e)
		}
	}
}
