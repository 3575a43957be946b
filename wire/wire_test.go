package wire

import (
	"encoding/binary"
	"hash/crc32"
	"math"
	"math/rand"
	"strings"
	"testing"

	"aviary/api"
)

const top = 1<<31 - 1 // of Session, Version and Owner

func create() api.Txn {
	return api.Txn{Zxid: 1<<31 + 2, Op: api.OpCreate, Session: 7, Path: "/a", Data: "hi", Owner: 7}
}

// longPath is a path of just MaxPath bytes.
func longPath() string { return strings.Repeat("/abcd", api.MaxPath/5) }

// goods is transactions without a fault, the edges among them.
func goods() []api.Txn {
	full := strings.Repeat("\x00\xffT", api.MaxData)[:api.MaxData]
	return []api.Txn{
		create(),
		{Op: api.OpOpen, Session: 1},
		{Zxid: 1<<62 - 1, Op: api.OpOpen, Session: top},
		{Zxid: 1, Op: api.OpClose, Session: 1},
		{Zxid: 0x0102030405060708, Op: api.OpClose, Session: 0x01020304},
		{Zxid: 2, Op: api.OpCreate, Session: 1, Path: "/a"},
		{Zxid: 2, Op: api.OpCreate, Session: 1, Path: "/a", Owner: 2},
		{Zxid: 2, Op: api.OpCreate, Session: 1, Path: longPath(), Data: full, Owner: top},
		{Zxid: 3, Op: api.OpDelete, Session: 9, Path: "/a/b"},
		{Zxid: 3, Op: api.OpDelete, Session: 9, Path: longPath()},
		{Zxid: 4, Op: api.OpSet, Session: 9, Path: "/"},
		{Zxid: 4, Op: api.OpSet, Session: 9, Path: "/", Data: "x", Version: 1},
		{Zxid: 1<<62 - 1, Op: api.OpSet, Session: top, Path: longPath(), Data: full, Version: top},
		{Zxid: 4, Op: api.OpSet, Session: 0x7F000001, Path: "/a", Data: full[1:], Version: 0x01020304},
	}
}

// packed is a body's bytes of whatever fields and lengths, by another hand than the program's.
func packed(x api.Txn, pathLength, dataLength int) string {
	b := binary.BigEndian.AppendUint64(nil, uint64(x.Zxid))
	b = append(b, byte(x.Op))
	for _, n := range []int{x.Session, x.Version, x.Owner} {
		b = binary.BigEndian.AppendUint32(b, uint32(n))
	}
	b = append(b, byte(pathLength))
	b = append(b, x.Path...)
	b = binary.BigEndian.AppendUint16(b, uint16(dataLength))
	return string(append(b, x.Data...))
}

// framed is a record of whatever body, with the sum that it should have.
func framed(body string) string {
	b := binary.BigEndian.AppendUint16([]byte("T"), uint16(len(body)))
	b = append(b, body...)
	return string(binary.BigEndian.AppendUint32(b, crc32.ChecksumIEEE(b)))
}

func recordOf(x api.Txn) string { return framed(packed(x, len(x.Path), len(x.Data))) }

// refused holds Decode to an error, and to nothing beside it.
func refused(t *testing.T, what, s string, want api.Errno) {
	t.Helper()
	if x, n, e := Decode(s); e != want || n != 0 || x != (api.Txn{}) {
		t.Errorf("%s: Decode(%.60q): %v, %d, %d; asked for %d", what, s, x, n, e, want)
	}
}

// P3.1: sums that are written out.
func TestSumExamples(t *testing.T) {
	for s, want := range map[string]int{
		"":          0,
		"\x00":      0xD202EF8D,
		"\xff":      0xFF000000,
		"a":         0xE8B7BE43,
		"abc":       0x352441C2,
		"123456789": 0xCBF43926,
		"The quick brown fox jumps over the lazy dog": 0x414FA339,
		"\xff\xff\xff\xff": 0xFFFFFFFF,
	} {
		if n := Sum(s); n != want {
			t.Errorf("Sum(%q): %x", s, n)
		}
	}
}

// P3.1: every byte alone and in company, long texts, and that a sum is never below 0.
func TestSum(t *testing.T) {
	texts := []string{strings.Repeat("\x00", 1<<16), strings.Repeat("\xff", 1<<16+1), strings.Repeat("aviary", 1<<14)}
	for b := range 256 {
		c := string([]byte{byte(b)})
		texts = append(texts, c, c+c, "T"+c, c+"T", c+"\x00\x00\x00")
	}
	draw := rand.New(rand.NewSource(3))
	for n := range 300 {
		b := make([]byte, n)
		draw.Read(b)
		texts = append(texts, string(b))
	}
	for _, s := range texts {
		if n := Sum(s); n != int(crc32.ChecksumIEEE([]byte(s))) || n < 0 || n > 1<<32-1 {
			t.Errorf("Sum(%.30q): %x", s, n)
		}
	}
}

// P3.2
func TestGood(t *testing.T) {
	for _, x := range goods() {
		if e := Good(x); e != api.OK {
			t.Errorf("Good(%v): %d", x, e)
		}
	}
}

// P3.2: an op is one of the five.
func TestGoodKind(t *testing.T) {
	for op := 1; op <= 5; op++ {
		if e := Good(api.Txn{Op: op, Session: 1}); e == api.ErrKind {
			t.Errorf("Good of op %d: %d", op, e)
		}
	}
	for _, op := range []int{math.MinInt, -1, 0, 6, 7, 255, 256, 257, 259, 1<<32 + 1, math.MaxInt} {
		x := create()
		x.Op = op
		if e := Good(x); e != api.ErrKind {
			t.Errorf("Good of op %d: %d", op, e)
		}
	}
}

// P3.2: each number's bounds, by itself; the op is one that minds no other value of it.
func TestGoodRange(t *testing.T) {
	for _, n := range []int{math.MinInt, math.MinInt + 1, -1 << 62, -top, -1, 0, 1, 2, top - 1, top, top + 1, 1<<32 - 1, 1 << 32, 1<<32 + 1, 1<<62 - 1, 1 << 62, 1<<62 + 1, math.MaxInt} {
		for _, x := range []struct {
			field string
			txn   api.Txn
			want  bool
		}{
			{"Zxid", api.Txn{Zxid: n, Op: api.OpOpen, Session: 1}, 0 <= n && n < 1<<62},
			{"Session", api.Txn{Op: api.OpOpen, Session: n}, 1 <= n && n <= top},
			{"Version", api.Txn{Op: api.OpSet, Session: 1, Path: "/a", Version: n}, 0 <= n && n <= top},
			{"Owner", api.Txn{Op: api.OpCreate, Session: 1, Path: "/a", Owner: n}, 0 <= n && n <= top},
		} {
			want := api.ErrRange
			if x.want {
				want = api.OK
			}
			if e := Good(x.txn); e != want {
				t.Errorf("Good with %s %d: %d", x.field, n, e)
			}
		}
	}
}

// P3.2: data of MaxData bytes is the longest, whatever the op makes of it.
func TestGoodLong(t *testing.T) {
	for n := api.MaxData - 2; n <= api.MaxData+2; n++ {
		want := api.OK
		if n > api.MaxData {
			want = api.ErrLong
		}
		for _, op := range []int{api.OpCreate, api.OpSet} {
			if e := Good(api.Txn{Op: op, Session: 1, Path: "/a", Data: strings.Repeat("d", n)}); e != want {
				t.Errorf("Good of op %d with %d bytes: %d", op, n, e)
			}
		}
	}
	for op := api.OpOpen; op <= api.OpSet; op++ {
		for _, n := range []int{api.MaxData + 1, 1 << 16, 1<<16 + 1, 1 << 20} {
			if e := Good(api.Txn{Op: op, Session: 1, Path: "/a", Data: strings.Repeat("d", n)}); e != api.ErrLong {
				t.Errorf("Good of op %d with %d bytes: %d", op, n, e)
			}
		}
	}
}

// P3.2: what each op has no use for, a field at a time.
func TestGoodForm(t *testing.T) {
	type row struct{ path, data, version, owner bool } // which of them the op may have
	for op, may := range map[int]row{
		api.OpOpen:   {},
		api.OpClose:  {},
		api.OpCreate: {path: true, data: true, owner: true},
		api.OpDelete: {path: true},
		api.OpSet:    {path: true, data: true, version: true},
	} {
		for bits := range 16 {
			has := row{bits&1 != 0, bits&2 != 0, bits&4 != 0, bits&8 != 0}
			x := api.Txn{Op: op, Session: 1}
			if has.path {
				x.Path = "/a"
			}
			if has.data {
				x.Data = "\x00"
			}
			if has.version {
				x.Version = 1
			}
			if has.owner {
				x.Owner = 1
			}
			want := api.ErrForm
			if has.path == may.path && (may.data || !has.data) && (may.version || !has.version) && (may.owner || !has.owner) {
				want = api.OK
			}
			if e := Good(x); e != want {
				t.Errorf("Good(%v): %d", x, e)
			}
		}
	}
}

// P3.2: the paths that each op takes; the root is OpSet's alone.
func TestGoodPath(t *testing.T) {
	for _, s := range []string{"", "/", "/a", "/a/b", longPath(), longPath() + "a", longPath()[1:], "//", "/a/", "a", "/A", "/\x00", " ", "/" + strings.Repeat("s", api.MaxName+1), strings.Repeat("/a", 1<<19)} {
		isPath := s == "/" || s == "/a" || s == "/a/b" || s == longPath()
		for op := api.OpOpen; op <= api.OpSet; op++ {
			ok := isPath && s != "/"
			switch op {
			case api.OpOpen, api.OpClose:
				ok = s == ""
			case api.OpSet:
				ok = isPath
			}
			want := api.ErrForm
			if ok {
				want = api.OK
			}
			if e := Good(api.Txn{Op: op, Session: 1, Path: s}); e != want {
				t.Errorf("Good of op %d with %.50q: %d", op, s, e)
			}
		}
	}
}

// faulty is a transaction with just these faults, in the order in which the chapter names them.
func faulty(kind, numbers, long, form bool) (api.Txn, api.Errno) {
	x, e := create(), api.OK
	if form {
		x.Path, e = "/", api.ErrForm
	}
	if long {
		x.Data, e = strings.Repeat("d", api.MaxData+1), api.ErrLong
	}
	if numbers {
		x.Session, e = 0, api.ErrRange
	}
	if kind {
		x.Op, e = 0, api.ErrKind
	}
	return x, e
}

// P3.2, P3.3, P3.4: of several faults the one that the chapter names first, by all three calls.
func TestOrderOfErrors(t *testing.T) {
	for bits := range 16 {
		x, want := faulty(bits&1 != 0, bits&2 != 0, bits&4 != 0, bits&8 != 0)
		if e := Good(x); e != want {
			t.Errorf("Good(%.40v): %d, asked for %d", x, e, want)
		}
		if s, e := Encode(x); e != want || (s == "") != (e != api.OK) {
			t.Errorf("Encode(%.40v): %q, %d, asked for %d", x, s, e, want)
		}
		if want != api.OK {
			refused(t, "faulty", recordOf(x), want)
		}
	}
}

// P3.3: a record that is written out.
func TestEncodeExample(t *testing.T) {
	const want = "T\x00\x1c" +
		"\x00\x00\x00\x00\x80\x00\x00\x02" + "\x03" + "\x00\x00\x00\x07" + "\x00\x00\x00\x00" + "\x00\x00\x00\x07" +
		"\x02/a" + "\x00\x02hi"
	s, e := Encode(create())
	if e != api.OK || len(s) != len(want)+4 || s[:len(want)] != want {
		t.Fatalf("Encode: %q, %d", s, e)
	}
	if n := binary.BigEndian.Uint32([]byte(s[len(want):])); n != crc32.ChecksumIEEE([]byte(want)) {
		t.Errorf("Encode: sum %x", n)
	}
}

// P3.3: against bytes that another hand has packed.
func TestEncode(t *testing.T) {
	for _, x := range goods() {
		if s, e := Encode(x); s != recordOf(x) || e != api.OK {
			t.Errorf("Encode(%v): %q, %d; asked for %q", x, s, e, recordOf(x))
		}
	}
}

// P3.3: Good's error, and no bytes.
func TestEncodeRefuses(t *testing.T) {
	for _, x := range []api.Txn{
		{},
		{Op: 9},
		{Op: 3, Session: 1, Path: "/a", Version: 1},
		{Op: 1},
		{Op: 1, Session: -1},
		{Op: 1, Session: 1, Path: "/a"},
		{Zxid: -1, Op: 1, Session: 1},
		{Zxid: 1 << 62, Op: 1, Session: 1},
		{Op: 1<<8 + 1, Session: 1},
		{Op: 1, Session: 1<<32 + 1},
		{Op: 5, Session: 1, Path: "/", Data: strings.Repeat("d", 1<<16)},
		{Op: 5, Session: 1, Path: strings.Repeat("/a", 129)},
	} {
		if s, e := Encode(x); s != "" || e == api.OK || e != Good(x) {
			t.Errorf("Encode(%.50v): %.50q, %d", x, s, e)
		}
	}
}

// P3.4: what Encode gave comes back, whatever stands behind it.
func TestDecode(t *testing.T) {
	for _, x := range goods() {
		s, _ := Encode(x)
		for _, behind := range []string{"", "more", "T", "\x00", s, strings.Repeat("T", 1<<16)} {
			if y, n, e := Decode(s + behind); y != x || n != len(s) || e != api.OK {
				t.Errorf("Decode(%.50q): %v, %d, %d", s+behind, y, n, e)
			}
		}
	}
}

// P3.4: records one behind the other, by how many bytes each has.
func TestDecodeInTurn(t *testing.T) {
	s := ""
	for _, x := range goods() {
		record, _ := Encode(x)
		s += record
	}
	for _, x := range goods() {
		y, n, e := Decode(s)
		if y != x || e != api.OK {
			t.Fatalf("Decode: %v, %d, %d", y, n, e)
		}
		s = s[n:]
	}
	if s != "" {
		t.Errorf("left over: %q", s)
	}
}

// P3.4: a record that is cut anywhere has too few bytes.
func TestDecodeCut(t *testing.T) {
	for _, x := range goods() {
		s := recordOf(x)
		for n := range len(s) {
			refused(t, "cut", s[:n], api.ErrForm)
		}
	}
}

// P3.4: every first byte but one is wrong, whatever follows.
func TestDecodeMark(t *testing.T) {
	s := recordOf(create())
	for b := range 256 {
		if b != 'T' {
			refused(t, "mark", string([]byte{byte(b)})+s[1:], api.ErrForm)
		}
	}
	refused(t, "mark", "", api.ErrForm)
	refused(t, "mark", "X"+s, api.ErrForm)
}

// P3.4: the lengths about MaxTxn: up to it the sum and the body decide, beyond it is ErrForm even with a wrong sum.
func TestDecodeLength(t *testing.T) {
	for _, n := range []int{0, 1, 23, 24, api.MaxTxn - 7, api.MaxTxn - 1, api.MaxTxn, api.MaxTxn + 1, api.MaxTxn + 2, 1 << 15, 1<<16 - 1} {
		s := framed(strings.Repeat("b", n))
		wrong := s[:len(s)-1] + string([]byte{s[len(s)-1] ^ 1})
		refused(t, "length", s, api.ErrForm)
		want := api.ErrSum
		if n > api.MaxTxn {
			want = api.ErrForm
		}
		refused(t, "length and sum", wrong, want)
		refused(t, "length and cut", wrong[:len(wrong)-1], api.ErrForm)
	}
}

// P3.4: up to MaxTxn it is the body's length that counts, not the record's: such a body gets to Good.
func TestDecodeLongestBody(t *testing.T) {
	x := create()
	x.Data = strings.Repeat("d", api.MaxTxn-24-len(x.Path))
	refused(t, "MaxTxn", recordOf(x), api.ErrLong)
	x.Data += "d"
	refused(t, "beyond MaxTxn", recordOf(x), api.ErrForm)
}

// P3.4: each bit behind the length, turned, is another sum.
func TestDecodeSum(t *testing.T) {
	for _, x := range goods() {
		s := recordOf(x)
		for bit := 3 * 8; bit < len(s)*8; bit++ {
			b := []byte(s)
			b[bit/8] ^= 1 << (bit % 8)
			refused(t, "bit", string(b), api.ErrSum)
		}
	}
}

// P3.4: the sum is of all ahead of it, mark and length too, and not of the body alone.
func TestDecodeSumOfAll(t *testing.T) {
	s := recordOf(create())
	body := s[3 : len(s)-4]
	for _, of := range []string{body, s[1 : len(s)-4], s[:3], ""} {
		sum := binary.BigEndian.AppendUint32(nil, crc32.ChecksumIEEE([]byte(of)))
		refused(t, "sum", s[:len(s)-4]+string(sum), api.ErrSum)
	}
}

// P3.4: a length that is too small or too great makes another record of the bytes.
func TestDecodeWrongBodyLength(t *testing.T) {
	s := recordOf(create())
	refused(t, "less", s[:2]+"\x1b"+s[3:], api.ErrSum)
	refused(t, "none", s[:2]+"\x00"+s[3:], api.ErrSum)
	refused(t, "more", s[:2]+"\x1d"+s[3:], api.ErrForm)
	refused(t, "more, and there", s[:2]+"\x1d"+s[3:]+"x", api.ErrSum)
	refused(t, "high byte", "T\x01"+s[2:], api.ErrForm)
}

// P3.4: under a right sum, lengths that do not fit the body.
func TestDecodeBody(t *testing.T) {
	x := create()
	full := packed(x, len(x.Path), len(x.Data))
	for n := range len(full) {
		refused(t, "body cut", framed(full[:n]), api.ErrForm)
		refused(t, "body without its beginning", framed(full[n+1:]), api.ErrForm)
	}
	refused(t, "body and more", framed(full+"x"), api.ErrForm)
	refused(t, "body twice", framed(full+full), api.ErrForm)
	for n := range 256 {
		if n != len(x.Path) {
			refused(t, "path's length", framed(packed(x, n, len(x.Data))), api.ErrForm)
		}
	}
	for n := range 1 << 16 {
		if n != len(x.Data) {
			refused(t, "data's length", framed(packed(x, len(x.Path), n)), api.ErrForm)
		}
	}
}

// P3.4: a body that does not fit is ErrForm ahead of what Good would say of it.
func TestDecodeBodyFirst(t *testing.T) {
	for _, x := range []api.Txn{{}, {Op: 9}, {Op: 1}, {Zxid: -1, Op: 1, Session: 1}} {
		refused(t, "fits", recordOf(x), Good(x))
		refused(t, "does not fit", framed(packed(x, 0, 0)+"x"), api.ErrForm)
		refused(t, "does not fit", framed(packed(x, 1, 0)), api.ErrForm)
		refused(t, "does not fit", framed(packed(x, 0, 1)), api.ErrForm)
	}
}

// P3.4: Good's error of bytes that no Encode gives.
func TestDecodeGood(t *testing.T) {
	for _, x := range []struct {
		txn  api.Txn
		want api.Errno
	}{
		{api.Txn{Op: 0, Session: 1}, api.ErrKind},
		{api.Txn{Op: 6, Session: 1}, api.ErrKind},
		{api.Txn{Op: 255, Session: 1}, api.ErrKind},
		{api.Txn{Zxid: -1, Op: 1, Session: 1}, api.ErrRange},
		{api.Txn{Zxid: math.MinInt, Op: 1, Session: 1}, api.ErrRange},
		{api.Txn{Zxid: 1 << 62, Op: 1, Session: 1}, api.ErrRange},
		{api.Txn{Zxid: math.MaxInt, Op: 1, Session: 1}, api.ErrRange},
		{api.Txn{Op: 1, Session: 0}, api.ErrRange},
		{api.Txn{Op: 1, Session: top + 1}, api.ErrRange},
		{api.Txn{Op: 1, Session: 1<<32 - 1}, api.ErrRange},
		{api.Txn{Op: 5, Session: 1, Path: "/", Version: top + 1}, api.ErrRange},
		{api.Txn{Op: 3, Session: 1, Path: "/a", Owner: 1<<32 - 1}, api.ErrRange},
		{api.Txn{Op: 5, Session: 1, Path: "/", Data: strings.Repeat("d", api.MaxData+1)}, api.ErrLong},
		{api.Txn{Op: 1, Session: 1, Data: strings.Repeat("d", api.MaxData+1)}, api.ErrLong},
		{api.Txn{Op: 3, Session: 1, Path: "/"}, api.ErrForm},
		{api.Txn{Op: 4, Session: 1, Path: "/"}, api.ErrForm},
		{api.Txn{Op: 5, Session: 1, Path: ""}, api.ErrForm},
		{api.Txn{Op: 5, Session: 1, Path: strings.Repeat("/abcd", 51)}, api.ErrForm},
		{api.Txn{Op: 2, Session: 1, Owner: 1}, api.ErrForm},
	} {
		refused(t, "Good", recordOf(x.txn), x.want)
	}
}

// P3.3, P3.4: what Decode takes, Encode gives again to the byte; with an error there is nothing else.
func FuzzDecode(f *testing.F) {
	for _, x := range goods() {
		f.Add(recordOf(x), uint16(0))
		f.Add(recordOf(x)+"more", uint16(9))
	}
	f.Add(strings.Repeat("T", 2000), uint16(1))
	f.Fuzz(func(t *testing.T, s string, skip uint16) {
		// A right sum is not found by chance: each text is tried as a body, too.
		for _, s := range []string{s, framed(s), framed(s[min(int(skip), len(s)):])} {
			x, n, e := Decode(s)
			if e != api.OK {
				if n != 0 || x != (api.Txn{}) {
					t.Errorf("Decode(%q): %v, %d, %d", s, x, n, e)
				}
				continue
			}
			if again, e := Encode(x); again != s[:n] || e != api.OK {
				t.Errorf("Decode(%q): %v; Encode: %q, %d", s, x, again, e)
			}
		}
	})
}
