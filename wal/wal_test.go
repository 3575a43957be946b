package wal

import (
	"encoding/binary"
	"fmt"
	"hash/crc32"
	"math"
	"math/rand"
	"reflect"
	"slices"
	"strings"
	"testing"

	"aviary/api"
)

const (
	top  = 1<<62 - 1   // the greatest zxid
	next = 1<<31 + 1   // the first number of epoch 1
	most = 1<<31 - 1   // of a session's number
	odds = "\x00\xffT" // bytes that are no text, and a record's mark
)

func open(z int) api.Txn { return api.Txn{Zxid: z, Op: api.OpOpen, Session: 1} }

func set(z int, data string) api.Txn {
	return api.Txn{Zxid: z, Op: api.OpSet, Session: most, Path: "/a/b-1", Data: data, Version: 3}
}

// five is transactions of all ops, of different lengths, over two epochs.
func five() []api.Txn {
	return []api.Txn{
		open(1),
		{Zxid: 2, Op: api.OpCreate, Session: 1, Path: "/a", Data: odds, Owner: 1},
		{Zxid: 5, Op: api.OpSet, Session: 2, Path: "/", Data: strings.Repeat("T", api.MaxData), Version: 1},
		{Zxid: next, Op: api.OpDelete, Session: 2, Path: strings.Repeat("/abcd", api.MaxPath/5)},
		{Zxid: top, Op: api.OpClose, Session: most},
	}
}

// recordOf is a transaction's record by another hand than the program's; whether it is good isn't asked.
func recordOf(x api.Txn) string {
	b := binary.BigEndian.AppendUint64(nil, uint64(x.Zxid))
	b = append(b, byte(x.Op))
	for _, n := range []int{x.Session, x.Version, x.Owner} {
		b = binary.BigEndian.AppendUint32(b, uint32(n))
	}
	b = append(b, byte(len(x.Path)))
	b = append(b, x.Path...)
	b = binary.BigEndian.AppendUint16(b, uint16(len(x.Data)))
	b = append(b, x.Data...)
	r := binary.BigEndian.AppendUint16([]byte("T"), uint16(len(b)))
	r = append(r, b...)
	return string(binary.BigEndian.AppendUint32(r, crc32.ChecksumIEEE(r)))
}

func records(l ...api.Txn) string {
	s := ""
	for _, x := range l {
		s += recordOf(x)
	}
	return s
}

// among is a disk with a log between other files that are partly safe.
func among(safe, tail string) api.Disk {
	return api.Disk{Files: []api.File{
		{Name: "a", Safe: "one", Tail: "two"},
		{Name: "log", Safe: safe, Tail: tail},
		{Name: "log-", Tail: "three"},
	}}
}

// without is that disk without a log.
func without() api.Disk {
	d := among("", "")
	return api.Disk{Files: []api.File{d.Files[0], d.Files[2]}}
}

// crowd is a disk of n files, none of which is the log.
func crowd(n int) api.Disk {
	var d api.Disk
	for i := range n {
		d.Files = append(d.Files, api.File{Name: fmt.Sprintf("f%02d", i), Tail: "t"})
	}
	return d
}

// bads is disks that are not good.
func bads() map[string]api.Disk {
	s := records(five()...)
	return map[string]api.Disk{
		"too many":     crowd(api.MaxFiles + 1),
		"falling":      {Files: []api.File{{Name: "log", Tail: s}, {Name: "a"}}},
		"twice":        {Files: []api.File{{Name: "log", Tail: s}, {Name: "log", Tail: s}}},
		"a wrong name": {Files: []api.File{{Name: "Log"}, {Name: "log", Safe: s}}},
		"too long":     among(s, strings.Repeat("x", api.MaxFile+1-len(s))),
		"no log":       {Files: []api.File{{Name: "b"}, {Name: "a"}}},
	}
}

func alike(a, b api.Disk) bool { return slices.Equal(a.Files, b.Files) }

// short is a disk as a text, without all of a long file.
func short(d api.Disk) string { return fmt.Sprintf("%.300q", fmt.Sprint(d.Files)) }

// answered holds a call to a disk.
func answered(t *testing.T, what string, want api.Disk) func(api.Disk, api.Errno) {
	return func(got api.Disk, e api.Errno) {
		t.Helper()
		if e != api.OK || !alike(got, want) {
			t.Errorf("%s: %s, %d; asked for %s", what, short(got), e, short(want))
		}
	}
}

// refused holds a call to an error, and to nothing beside it.
func refused(t *testing.T, what string, want api.Errno) func(api.Disk, api.Errno) {
	return func(got api.Disk, e api.Errno) {
		t.Helper()
		if e != want || len(got.Files) != 0 {
			t.Errorf("%s: %s, %d; asked for %d", what, short(got), e, want)
		}
	}
}

// recovered holds Recover to transactions and a disk, or to an error and nothing beside it.
func recovered(t *testing.T, what string, d api.Disk, l []api.Txn, want api.Disk, code api.Errno) {
	t.Helper()
	got, after, e := Recover(d)
	if e != code || !slices.Equal(got, l) || !alike(after, want) {
		t.Errorf("%s: %.200v, %s, %d; asked for %.200v, %s, %d", what, fmt.Sprint(got), short(after), e, fmt.Sprint(l), short(want), code)
	}
}

// scanned holds Scan to transactions; how many bytes they have is told by another hand.
func scanned(t *testing.T, what, s string, l []api.Txn) {
	t.Helper()
	if got, n := Scan(s); !slices.Equal(got, l) || n != len(records(l...)) {
		t.Errorf("%s: Scan: %.200v, %d; asked for %.200v, %d", what, fmt.Sprint(got), n, fmt.Sprint(l), len(records(l...)))
	}
}

// P5.1: the last one's number, be it good or not, the greatest or not; 0 without any.
func TestLast(t *testing.T) {
	for _, x := range []struct {
		zxids []int
		want  int
	}{
		{nil, 0},
		{[]int{}, 0},
		{[]int{0}, 0},
		{[]int{7}, 7},
		{[]int{1, 2, 3}, 3},
		{[]int{3, 2, 1}, 1},
		{[]int{9, 0}, 0},
		{[]int{1, top}, top},
		{[]int{1, -1}, -1},
		{[]int{1, math.MinInt}, math.MinInt},
		{[]int{1, math.MaxInt}, math.MaxInt},
	} {
		l := []api.Txn{}
		for _, z := range x.zxids {
			l = append(l, api.Txn{Zxid: z})
		}
		room := append(l, open(99))
		if n := Last(room[:len(l)]); n != x.want {
			t.Errorf("Last of %v: %d", x.zxids, n)
		}
	}
}

// P5.2: a record goes behind the log's bytes; unless it is to be safe it is in Tail, and what was in Tail stays there.
func TestAppend(t *testing.T) {
	for _, x := range five() {
		r := recordOf(x)
		answered(t, "to no files", api.Disk{Files: []api.File{{Name: "log", Tail: r}}})(Append(api.Disk{}, x, false))
		answered(t, "to no files, safe", api.Disk{Files: []api.File{{Name: "log", Safe: r}}})(Append(api.Disk{}, x, true))
		answered(t, "to no log", among("", r))(Append(without(), x, false))
		answered(t, "to no log, safe", among(r, ""))(Append(without(), x, true))
		answered(t, "to a log", among("s", "t"+r))(Append(among("s", "t"), x, false))
		answered(t, "to a log, safe", among("st"+r, ""))(Append(among("s", "t"), x, true))
	}
}

// P5.2: whether numbers rise, or what the log has ahead, isn't asked.
func TestAppendAnyOrder(t *testing.T) {
	d, want := api.Disk{}, ""
	for _, z := range []int{5, 5, 3, 0, top, 1} {
		var e api.Errno
		if d, e = Append(d, open(z), z != 1); e != api.OK {
			t.Fatalf("Append of %d: %d", z, e)
		}
		want += recordOf(open(z))
	}
	if f := d.Files[0]; f.Safe+f.Tail != want || f.Tail != recordOf(open(1)) {
		t.Errorf("%s", short(d))
	}
	answered(t, "behind a part", among("T", recordOf(open(1))))(Append(among("T", ""), open(1), false))
}

// P5.2: Encode's errors, ahead of those of Write.
func TestAppendEncode(t *testing.T) {
	long := strings.Repeat("d", api.MaxData+1)
	for code, l := range map[api.Errno][]api.Txn{
		api.ErrKind:  {{}, {Op: 6, Session: 1}, {Op: -1, Session: 1}},
		api.ErrRange: {{Op: 1}, {Zxid: -1, Op: 1, Session: 1}, {Zxid: top + 1, Op: 1, Session: 1}, {Op: 1, Session: most + 1}},
		api.ErrLong:  {set(1, long)},
		api.ErrForm:  {{Op: 1, Session: 1, Path: "/a"}, {Op: 3, Session: 1, Path: "/"}, {Op: 5, Session: 1, Path: "a"}},
	} {
		for _, x := range l {
			for _, safe := range []bool{false, true} {
				refused(t, "on a good disk", code)(Append(among("s", "t"), x, safe))
				refused(t, "on a full disk", code)(Append(crowd(api.MaxFiles), x, safe))
				for what, d := range bads() {
					refused(t, what, code)(Append(d, x, safe))
				}
			}
		}
	}
}

// P5.2: Write's errors.
func TestAppendWrite(t *testing.T) {
	for _, safe := range []bool{false, true} {
		for what, d := range bads() {
			refused(t, what, api.ErrRange)(Append(d, open(1), safe))
		}
		refused(t, "a full disk", api.ErrFull)(Append(crowd(api.MaxFiles), open(1), safe))
		if d, e := Append(crowd(api.MaxFiles-1), open(1), safe); e != api.OK || len(d.Files) != api.MaxFiles {
			t.Errorf("the last file: %s, %d", short(d), e)
		}
		for _, x := range five() {
			room := api.MaxFile - len(recordOf(x))
			refused(t, "a byte too many", api.ErrLong)(Append(among("s", strings.Repeat("x", room)), x, safe))
			refused(t, "a full log", api.ErrLong)(Append(among(strings.Repeat("x", api.MaxFile), ""), x, safe))
			d, e := Append(among(strings.Repeat("x", room), ""), x, safe)
			if e != api.OK || len(d.Files[1].Safe)+len(d.Files[1].Tail) != api.MaxFile {
				t.Errorf("just as many bytes: %d", e)
			}
		}
	}
}

// P5.3: no records, one, and many.
func TestScan(t *testing.T) {
	l := five()
	for n := range len(l) + 1 {
		scanned(t, "records", records(l[:n]...), l[:n])
		scanned(t, "later records", records(l[n:]...), l[n:])
	}
	l = nil
	for z := range 3000 {
		l = append(l, set(7*z, strings.Repeat("d", z%5)))
	}
	scanned(t, "many", records(l...), l)
}

// P5.3: each number is above that of the one ahead; the first may be any.
func TestScanOrder(t *testing.T) {
	for _, x := range []struct {
		zxids []int
		want  int
	}{
		{[]int{0}, 1},
		{[]int{0, 0}, 1},
		{[]int{0, 1}, 2},
		{[]int{1, 0, 2}, 1},
		{[]int{7, 7, 8}, 1},
		{[]int{7, 8, 8, 9}, 2},
		{[]int{7, 9, 8, 10}, 2},
		{[]int{7, 9, 8, 9}, 2},
		{[]int{5, most, next, 6}, 3},
		{[]int{next, most}, 1},
		{[]int{1, 1000, top}, 3},
		{[]int{top, 1}, 1},
		{[]int{top - 1, top, top}, 2},
	} {
		var l []api.Txn
		for i, z := range x.zxids {
			l = append(l, set(z, strings.Repeat("d", i)))
		}
		scanned(t, fmt.Sprint(x.zxids), records(l...), l[:x.want])
	}
}

// P5.3: bytes that end anywhere: the records that are there in full.
func TestScanTorn(t *testing.T) {
	l := five()
	s := records(l...)
	for n := range len(s) {
		whole := 0
		for len(records(l[:whole+1]...)) <= n {
			whole++
		}
		scanned(t, fmt.Sprintf("the first %d bytes", n), s[:n], l[:whole])
	}
}

// P5.3: a byte that is another one ends what is taken at its record's beginning; a good record behind it is not found.
func TestScanTurned(t *testing.T) {
	l := five()
	s := records(l...)
	for at := range len(s) {
		whole := 0
		for len(records(l[:whole+1]...)) <= at {
			whole++
		}
		b := []byte(s)
		b[at] ^= 0x10
		scanned(t, fmt.Sprintf("byte %d", at), string(b), l[:whole])
	}
}

// P5.3: what Decode doesn't take, ahead of records, between them, and behind them.
func TestScanWrong(t *testing.T) {
	one, two := open(3), open(9)
	for what, s := range map[string]string{
		"a letter":          "x",
		"a mark":            "T",
		"a zero byte":       "\x00",
		"too great":         "T\xff\xff" + strings.Repeat("T", 1<<16),
		"a wrong op":        recordOf(api.Txn{Zxid: 5, Op: 6, Session: 1}),
		"no session":        recordOf(api.Txn{Zxid: 5, Op: 1}),
		"a wrong zxid":      recordOf(api.Txn{Zxid: top + 1, Op: 1, Session: 1}),
		"a wrong path":      recordOf(api.Txn{Zxid: 5, Op: 3, Session: 1, Path: "a"}),
		"data too long":     recordOf(set(5, strings.Repeat("d", api.MaxData+1))),
		"a needless owner":  recordOf(api.Txn{Zxid: 5, Op: 1, Session: 1, Owner: 1}),
		"a wrong sum":       recordOf(open(5))[:27] + "sums",
		"a part of another": recordOf(open(5))[1:],
	} {
		scanned(t, what+" alone", s, nil)
		scanned(t, what+" ahead", s+records(one, two), nil)
		scanned(t, what+" between", records(one)+s+records(two), []api.Txn{one})
		scanned(t, what+" behind", records(one, two)+s, []api.Txn{one, two})
	}
}

// P5.4: no log: one without bytes is made, in its place.
func TestRecoverNone(t *testing.T) {
	recovered(t, "no files", api.Disk{}, nil, api.Disk{Files: []api.File{{Name: "log"}}}, api.OK)
	recovered(t, "an empty list", api.Disk{Files: []api.File{}}, nil, api.Disk{Files: []api.File{{Name: "log"}}}, api.OK)
	recovered(t, "other files", without(), nil, among("", ""), api.OK)
	last := api.Disk{Files: append(crowd(api.MaxFiles-1).Files, api.File{Name: "log"})}
	recovered(t, "the last file", crowd(api.MaxFiles-1), nil, last, api.OK)
	recovered(t, "a full disk", crowd(api.MaxFiles), nil, api.Disk{}, api.ErrFull)
}

// P5.4: a disk that is not good, be there a log on it or not.
func TestRecoverBad(t *testing.T) {
	for what, d := range bads() {
		recovered(t, what, d, nil, api.Disk{}, api.ErrRange)
	}
}

// P5.4: wherever Safe ends, the whole records are told, and are safe then; what is behind them is gone.
func TestRecover(t *testing.T) {
	l := five()
	s := records(l...)
	for _, more := range []string{"", "T", odds, recordOf(open(top)), s[:40], s} {
		for at := 0; at <= len(s+more); at += 3 {
			recovered(t, "Recover", among((s + more)[:at], (s + more)[at:]), l, among(s, ""), api.OK)
		}
	}
	recovered(t, "no bytes", among("", ""), nil, among("", ""), api.OK)
	recovered(t, "nothing but others", among("x", s), nil, among("", ""), api.OK)
	recovered(t, "nothing but a part", among(s[:10], s[10:30]), nil, among("", ""), api.OK)
	crowded := api.Disk{Files: append(crowd(api.MaxFiles-1).Files, api.File{Name: "log", Safe: s, Tail: "x"})}
	whole := api.Disk{Files: append(crowd(api.MaxFiles-1).Files, api.File{Name: "log", Safe: s})}
	recovered(t, "a full disk", crowded, l, whole, api.OK)
}

// P5.4: a log of as many bytes as a file may have.
func TestRecoverLongest(t *testing.T) {
	var l []api.Txn
	s := strings.Builder{}
	for z := 1; s.Len()+len(recordOf(open(z))) <= api.MaxFile; z++ {
		l = append(l, open(z))
		s.WriteString(recordOf(open(z)))
	}
	rest := strings.Repeat("T", api.MaxFile-s.Len())
	recovered(t, "the longest", among(s.String(), rest), l, among(s.String(), ""), api.OK)
}

// P5.5: every number about those of the log, and far from them.
func TestKeep(t *testing.T) {
	l := five()
	s := records(l...)
	for z, want := range map[int]int{
		math.MinInt: 0, -1: 0, 0: 0,
		1: 1, 2: 2, 3: 2, 4: 2, 5: 3, 6: 3, most: 3, next - 1: 3, next: 4, next + 1: 4,
		top - 1: 4, top: 5, top + 1: 5, math.MaxInt: 5,
	} {
		kept := among(records(l[:want]...), "")
		for _, more := range []string{"", "x", s[:50], recordOf(open(1)), recordOf(open(top))} {
			for at := 0; at <= len(s+more); at += 7 {
				answered(t, fmt.Sprintf("Keep to %d", z), kept)(Keep(among((s + more)[:at], (s + more)[at:]), z))
			}
		}
	}
}

// P5.5: a number of 0 is at most 0; behind what Recover doesn't tell nothing is kept, be its number small.
func TestKeepEdges(t *testing.T) {
	zero := records(open(0))
	answered(t, "0 of 0", among(zero, ""))(Keep(among("", zero+records(open(1))), 0))
	answered(t, "-1 of 0", among("", ""))(Keep(among(zero, ""), -1))
	falling := records(open(5), open(3))
	answered(t, "4 of a 5 and a 3", among("", ""))(Keep(among(falling, ""), 4))
	answered(t, "5 of a 5 and a 3", among(records(open(5)), ""))(Keep(among(falling, ""), 5))
	answered(t, "behind others", among(records(open(5)), ""))(Keep(among(records(open(5))+"x"+records(open(6)), ""), 9))
}

// P5.5: no log, and Recover's errors, whatever the number.
func TestKeepErrors(t *testing.T) {
	for _, z := range []int{math.MinInt, -1, 0, 1, top, math.MaxInt} {
		answered(t, "no files", api.Disk{Files: []api.File{{Name: "log"}}})(Keep(api.Disk{}, z))
		answered(t, "other files", among("", ""))(Keep(without(), z))
		refused(t, "a full disk", api.ErrFull)(Keep(crowd(api.MaxFiles), z))
		for what, d := range bads() {
			refused(t, what, api.ErrRange)(Keep(d, z))
		}
	}
}

// model is a log by another hand: transactions that were written, which of their bytes are safe.
type model struct {
	l    []api.Txn
	safe int
}

func (m *model) size() int { return len(records(m.l...)) }

// whole leaves the transactions whose bytes are among the first n, all safe.
func (m *model) whole(n int) {
	for m.size() > n {
		m.l = m.l[:len(m.l)-1]
	}
	m.safe = m.size()
}

func (m *model) append(x api.Txn, safe bool) {
	m.l = append(m.l, x)
	if safe {
		m.safe = m.size()
	}
}

func (m *model) keep(z int) {
	for len(m.l) > 0 && m.l[len(m.l)-1].Zxid > z {
		m.l = m.l[:len(m.l)-1]
	}
	m.safe = m.size()
}

func (m *model) disk() api.Disk {
	s := records(m.l...)
	return api.Disk{Files: []api.File{{Name: "log", Safe: s[:m.safe], Tail: s[m.safe:]}}}
}

// torn is a disk of a log alone behind a crash, by another hand.
func torn(d api.Disk, keep int) api.Disk {
	f := d.Files[0]
	return api.Disk{Files: []api.File{{Name: "log", Safe: f.Safe + f.Tail[:min(keep, len(f.Tail))]}}}
}

// P5.2, P5.4, P5.5: long ways of transactions, crashes and cuts, against a log by another hand.
func TestWays(t *testing.T) {
	for seed := range 60 {
		r := rand.New(rand.NewSource(int64(seed)))
		m, z := &model{}, 0
		d, e := Append(api.Disk{}, open(z), true)
		m.append(open(z), true)
		for i := range 60 {
			if e != api.OK {
				t.Fatalf("way %d, step %d: %d", seed, i, e)
			}
			var l []api.Txn
			switch r.Intn(8) {
			case 0:
				keep := r.Intn(200)
				m.whole(min(m.size(), m.safe+keep))
				l, d, e = Recover(torn(d, keep))
				if !slices.Equal(l, m.l) {
					t.Fatalf("way %d, step %d: %v; asked for %v", seed, i, l, m.l)
				}
			case 1:
				to := Last(m.l) - r.Intn(6)
				m.keep(to)
				d, e = Keep(d, to)
			default:
				x, safe := set(Last(m.l)+1+r.Intn(3), strings.Repeat("d", r.Intn(50))), r.Intn(2) == 0
				m.append(x, safe)
				d, e = Append(d, x, safe)
			}
			if !alike(d, m.disk()) {
				t.Fatalf("way %d, step %d: %s; asked for %s", seed, i, short(d), short(m.disk()))
			}
		}
	}
}

// roomy is a disk with a log and spare room behind its files, and all of that room.
func roomy() (api.Disk, []api.File) {
	s := records(five()...)
	room := append(among(s[:40], s[40:]+"x").Files, api.File{Name: "x", Safe: "spare", Tail: "room"}, api.File{Name: "y"})
	return api.Disk{Files: room[:3]}, room
}

// deeds is the calls that answer a disk.
func deeds() map[string]func(api.Disk) (api.Disk, api.Errno) {
	return map[string]func(api.Disk) (api.Disk, api.Errno){
		"Append":       func(d api.Disk) (api.Disk, api.Errno) { return Append(d, open(1), false) },
		"Append, safe": func(d api.Disk) (api.Disk, api.Errno) { return Append(d, open(1), true) },
		"Keep":         func(d api.Disk) (api.Disk, api.Errno) { return Keep(d, 2) },
		"Recover": func(d api.Disk) (api.Disk, api.Errno) {
			_, after, e := Recover(d)
			return after, e
		},
	}
}

// P5.2, P5.4, P5.5: what is handed in is not changed, its spare room neither, and what comes out shares none of it.
func TestApart(t *testing.T) {
	for what, deed := range deeds() {
		d, room := roomy()
		_, asItWas := roomy()
		after, e := deed(d)
		if e != api.OK || !reflect.DeepEqual(room, asItWas) {
			t.Errorf("%s: %d; what was handed in is changed", what, e)
		}
		want := slices.Clone(after.Files)
		out := after.Files[:cap(after.Files)]
		for i := range out {
			out[i] = api.File{Name: "changed"}
		}
		if !reflect.DeepEqual(room, asItWas) {
			t.Errorf("%s: what comes out shares memory with what was handed in", what)
		}
		if again, _ := deed(d); !slices.Equal(again.Files, want) {
			t.Errorf("%s: a second time: %s", what, short(again))
		}
	}
}

// P5.3, P5.4: the transactions that come out are the caller's; P5.1: those that go in are not changed.
func TestApartTransactions(t *testing.T) {
	d, _ := roomy()
	spoil := func(l []api.Txn) {
		l = l[:cap(l)]
		for i := range l {
			l[i] = api.Txn{Zxid: -1, Path: "changed"}
		}
	}
	for range 2 {
		l, n := Scan(records(five()...))
		if !slices.Equal(l, five()) || n != len(records(five()...)) {
			t.Errorf("Scan: %v, %d", l, n)
		}
		spoil(l)
		l, _, e := Recover(d)
		if !slices.Equal(l, five()) || e != api.OK {
			t.Errorf("Recover: %v, %d", l, e)
		}
		spoil(l)
	}
	l := five()
	if Last(l[:3]) != 5 || !slices.Equal(l, five()) {
		t.Errorf("Last: %v", l)
	}
}

// P5.3: of any bytes, those that are taken are the records of what is told, and what follows isn't one that may follow.
func FuzzScan(f *testing.F) {
	f.Add(records(five()...), 1, 2)
	f.Add("x"+records(open(1)), 2, 1)
	f.Add("", 0, top)
	f.Fuzz(func(t *testing.T, s string, a, b int) {
		for _, s := range []string{s, records(set(a, ""), open(b)) + s, recordOf(open(a)) + s + recordOf(open(b))} {
			l, n := Scan(s)
			if n < 0 || n > len(s) || records(l...) != s[:n] {
				t.Fatalf("Scan(%q): %v, %d", s, l, n)
			}
			for i := 1; i < len(l); i++ {
				if l[i].Zxid <= l[i-1].Zxid {
					t.Errorf("Scan(%q): %v", s, l)
				}
			}
			if rest, _ := Scan(s[n:]); len(rest) > 0 && (len(l) == 0 || rest[0].Zxid > Last(l)) {
				t.Errorf("Scan(%q): %v; behind them: %v", s, l, rest)
			}
		}
	})
}
