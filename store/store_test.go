package store

import (
	"encoding/binary"
	"fmt"
	"hash/crc32"
	"math"
	"slices"
	"strings"
	"testing"

	"aviary/api"
	"aviary/disk"
	"aviary/tree"
)

const (
	top  = 1<<62 - 1   // the greatest zxid
	most = 1<<31 - 1   // of an epoch, and of a session's number
	next = 1<<31 + 1   // the first number of epoch 1
	odds = "\x00\xffT" // bytes that are no text, and a record's mark
)

func open(z, session int) api.Txn { return api.Txn{Zxid: z, Op: api.OpOpen, Session: session} }

func closed(z, session int) api.Txn { return api.Txn{Zxid: z, Op: api.OpClose, Session: session} }

func made(z, session int, p string) api.Txn {
	return api.Txn{Zxid: z, Op: api.OpCreate, Session: session, Path: p, Data: odds}
}

func owned(z, session int, p string) api.Txn {
	return api.Txn{Zxid: z, Op: api.OpCreate, Session: session, Path: p, Owner: session}
}

func gone(z, session int, p string) api.Txn {
	return api.Txn{Zxid: z, Op: api.OpDelete, Session: session, Path: p}
}

func set(z, session, version int, p string) api.Txn {
	return api.Txn{Zxid: z, Op: api.OpSet, Session: session, Path: p, Data: "new", Version: version}
}

// seven is transactions that a new tree takes one behind the other, over two epochs.
func seven() []api.Txn {
	return []api.Txn{
		open(1, 7),
		open(2, 8),
		made(3, 7, "/a"),
		owned(5, 7, "/a/b"),
		owned(next, 7, "/c"),
		set(next+1, 8, 1, "/a"),
		closed(next+9, 7),
	}
}

// recordOf is a transaction's record by another hand than the program's.
func recordOf(x api.Txn) string {
	b := binary.BigEndian.AppendUint64(nil, uint64(x.Zxid))
	b = append(b, byte(x.Op))
	for _, n := range []int{x.Session, x.Version, x.Owner} {
		b = binary.BigEndian.AppendUint32(b, uint32(n))
	}
	b = append(b, byte(len(x.Path)))
	b = append(b, x.Path...)
	b = binary.BigEndian.AppendUint16(b, uint16(len(x.Data)))
	b = append(b, x.Data...)
	r := binary.BigEndian.AppendUint16([]byte("T"), uint16(len(b)))
	r = append(r, b...)
	return string(binary.BigEndian.AppendUint32(r, crc32.ChecksumIEEE(r)))
}

func records(l ...api.Txn) string {
	s := strings.Builder{}
	for _, x := range l {
		s.WriteString(recordOf(x))
	}
	return s.String()
}

// drive is a disk with an epoch and a log among other files that are partly safe.
func drive(epoch, safe, tail string) api.Disk {
	return api.Disk{Files: []api.File{
		{Name: "a", Safe: "one", Tail: "two"},
		{Name: "epoch", Safe: epoch},
		{Name: "log", Safe: safe, Tail: tail},
		{Name: "z", Tail: "three"},
	}}
}

// lacking is that disk without a file.
func lacking(d api.Disk, name string) api.Disk {
	return api.Disk{Files: slices.DeleteFunc(slices.Clone(d.Files), func(f api.File) bool { return f.Name == name })}
}

// crowd is a disk of n files, all of them ahead of those that are named, which come last.
func crowd(n int, last ...api.File) api.Disk {
	var d api.Disk
	for i := range n - len(last) {
		d.Files = append(d.Files, api.File{Name: fmt.Sprintf("-%02d", i), Tail: "t"})
	}
	d.Files = append(d.Files, last...)
	return d
}

// bads is disks that are not good, with an epoch and a log on them.
func bads() map[string]api.Disk {
	s := records(seven()...)
	pair := []api.File{{Name: "epoch", Safe: "7.0"}, {Name: "log", Safe: s}}
	return map[string]api.Disk{
		"too many":     crowd(api.MaxFiles+1, pair...),
		"falling":      {Files: []api.File{pair[1], pair[0]}},
		"twice":        {Files: []api.File{pair[0], pair[0], pair[1]}},
		"a wrong name": {Files: []api.File{{Name: "Log"}, pair[0], pair[1]}},
		"no name":      {Files: []api.File{{}, pair[0], pair[1]}},
		"too long":     drive("7.0", s, strings.Repeat("x", api.MaxFile+1-len(s))),
	}
}

// server is one that is up, with all of its parts filled.
func server(d api.Disk, l []api.Txn, done int) api.Server {
	return api.Server{
		Up:   true,
		Disk: d,
		Peer: api.Peer{Id: 1, Epoch: 4, Log: l, Done: done},
		Tree: api.Tree{Zxid: 0, Nodes: []api.Node{{Path: "/", Data: "r", Stat: api.Stat{Version: 2}}}, Sessions: []int{3, 4}},
		Watches: []api.Watch{
			{Session: 9, Kind: api.WatchKids, Path: "/zz"},
			{Session: 5, Kind: api.WatchData, Path: "/zz"},
		},
	}
}

func sameDisk(a, b api.Disk) bool { return slices.Equal(a.Files, b.Files) }

func sameTree(a, b api.Tree) bool {
	return a.Zxid == b.Zxid && slices.Equal(a.Nodes, b.Nodes) && slices.Equal(a.Sessions, b.Sessions)
}

func samePeer(a, b api.Peer) bool {
	return a.Id == b.Id && a.Epoch == b.Epoch && a.Done == b.Done && slices.Equal(a.Log, b.Log)
}

func same(a, b api.Server) bool {
	return a.Up == b.Up && sameDisk(a.Disk, b.Disk) && samePeer(a.Peer, b.Peer) && sameTree(a.Tree, b.Tree) && slices.Equal(a.Watches, b.Watches)
}

// short is a thing as a text, without all of a long file.
func short(a any) string { return fmt.Sprintf("%.500q", fmt.Sprint(a)) }

// disks holds a call to a disk, or to an error and nothing beside it.
func disks(t *testing.T, what string, want api.Disk, code api.Errno) func(api.Disk, api.Errno) {
	return func(got api.Disk, e api.Errno) {
		t.Helper()
		if e != code || !sameDisk(got, want) {
			t.Errorf("%s: %s, %d; asked for %s, %d", what, short(got), e, short(want), code)
		}
	}
}

// servers holds a call to a server.
func servers(t *testing.T, what string, want api.Server) func(api.Server, api.Errno) {
	return func(got api.Server, e api.Errno) {
		t.Helper()
		if e != api.OK || !same(got, want) {
			t.Errorf("%s: %s, %d; asked for %s", what, short(got), e, short(want))
		}
	}
}

// refused holds a call to an error, and to no server beside it.
func refused(t *testing.T, what string, want api.Errno) func(api.Server, api.Errno) {
	return func(got api.Server, e api.Errno) {
		t.Helper()
		if e != want || !same(got, api.Server{}) {
			t.Errorf("%s: %s, %d; asked for %d", what, short(got), e, want)
		}
	}
}

// P10.1: the epoch of a zxid's text, wherever what is safe of it ends.
func TestEpoch(t *testing.T) {
	for text, want := range map[string]int{
		"0.0": 0, "0.5": 0, "1.0": 1, "7.0": 7, "7.3": 7, "10.2147483647": 10,
		"2147483647.0": most, "2147483647.2147483647": most,
	} {
		for at := range len(text) + 1 {
			f := api.File{Name: "epoch", Safe: text[:at], Tail: text[at:]}
			for _, d := range []api.Disk{{Files: []api.File{f}}, crowd(api.MaxFiles, f), {Files: []api.File{{Name: "e", Safe: "9.0"}, f, {Name: "epoch-", Safe: "8.0"}}}} {
				if got := Epoch(d); got != want {
					t.Errorf("%q: %d; asked for %d", text, got, want)
				}
			}
		}
	}
}

// P10.1: what is no zxid's text, no such file, and a disk that is not good.
func TestEpochNone(t *testing.T) {
	for _, text := range []string{
		"", "7", "7.", ".7", ".", "07.0", "7.00", "7.01", "7.0\n", " 7.0", "7.0 ", "+7.0", "-7.0", "7.0.0", "7,0", "0x7.0", "seven",
		"2147483648.0", "7.2147483648", "9999999999.0", "10000000000.0", "7.10000000000", "\x00", "7.\xff",
		strings.Repeat("7", api.MaxFile), "7." + strings.Repeat("0", api.MaxFile-2),
	} {
		if got := Epoch(drive(text, "", "")); got != 0 {
			t.Errorf("%.30q: %d", text, got)
		}
	}
	for what, d := range map[string]api.Disk{
		"no files":      {},
		"an empty list": {Files: []api.File{}},
		"other files":   {Files: []api.File{{Name: "epoc", Safe: "7.0"}, {Name: "epoch0", Safe: "7.0"}, {Name: "log", Safe: "7.0"}}},
		"many files":    crowd(api.MaxFiles),
	} {
		if got := Epoch(d); got != 0 {
			t.Errorf("%s: %d", what, got)
		}
	}
	for what, d := range bads() {
		if got := Epoch(d); got != 0 {
			t.Errorf("%s: %d", what, got)
		}
	}
}

// P10.1: the file has the text alone, and safe, whatever it had ahead; other files stay as they are.
func TestRemember(t *testing.T) {
	for epoch, text := range map[int]string{0: "0.0", 1: "1.0", 7: "7.0", 10: "10.0", most - 1: "2147483646.0", most: "2147483647.0"} {
		want := drive(text, "l", "m")
		for _, old := range []string{"", text, "5.0", "2147483647.0", "x", strings.Repeat("y", api.MaxFile)} {
			disks(t, "a file", want, api.OK)(Remember(drive(old, "l", "m"), epoch))
			d := drive("", "l", "m")
			d.Files[1].Tail = old
			disks(t, "a tail", want, api.OK)(Remember(d, epoch))
		}
		disks(t, "no file", want, api.OK)(Remember(lacking(want, "epoch"), epoch))
		only := api.Disk{Files: []api.File{{Name: "epoch", Safe: text}}}
		disks(t, "no files", only, api.OK)(Remember(api.Disk{}, epoch))
		disks(t, "an empty list", only, api.OK)(Remember(api.Disk{Files: []api.File{}}, epoch))
		d, _ := Remember(drive("5.0", "", ""), epoch)
		d, _ = disk.Crash(d, 0)
		if got := Epoch(d); got != epoch {
			t.Errorf("behind a crash: %d; asked for %d", got, epoch)
		}
	}
}

// P10.1: a full disk has no room for a new file, but for one in the place of an old one.
func TestRememberFull(t *testing.T) {
	file := func(safe, tail string) api.File { return api.File{Name: "epoch", Safe: safe, Tail: tail} }
	disks(t, "full", api.Disk{}, api.ErrFull)(Remember(crowd(api.MaxFiles), 3))
	disks(t, "the last one", crowd(api.MaxFiles, file("3.0", "")), api.OK)(Remember(crowd(api.MaxFiles-1), 3))
	disks(t, "in its place", crowd(api.MaxFiles, file("3.0", "")), api.OK)(Remember(crowd(api.MaxFiles, file("old", "er")), 3))
}

// P10.1: Make's error comes first; then a disk that is not good.
func TestRememberErrors(t *testing.T) {
	for _, epoch := range []int{-1, -7, most + 1, 1<<32 + 7, math.MinInt, math.MaxInt} {
		for _, d := range []api.Disk{{}, drive("5.0", "", ""), crowd(api.MaxFiles), crowd(api.MaxFiles + 1)} {
			disks(t, fmt.Sprint("epoch ", epoch), api.Disk{}, api.ErrRange)(Remember(d, epoch))
		}
	}
	for what, d := range bads() {
		for _, epoch := range []int{0, 7, most, -1} {
			disks(t, what, api.Disk{}, api.ErrRange)(Remember(d, epoch))
		}
	}
}

// P10.2: a server that is up with an empty disk, a log's file on it then.
func TestBootEmpty(t *testing.T) {
	for id := range api.Servers {
		want := api.Server{Up: true, Disk: api.Disk{Files: []api.File{{Name: "log"}}}, Peer: api.Peer{Id: id}, Tree: api.Tree{Nodes: []api.Node{{Path: "/"}}}}
		servers(t, "no files", want)(Boot(id, api.Disk{}))
		servers(t, "an empty list", want)(Boot(id, api.Disk{Files: []api.File{}}))
	}
}

// P10.2: the log that the disk has, torn anywhere; the epoch, though it is not safe. Nothing is done, and the tree is new.
func TestBoot(t *testing.T) {
	l := seven()
	s := records(l...)
	for id := range api.Servers {
		for at := range len(s) + 1 {
			whole := 0
			for whole < len(l) && len(records(l[:whole+1]...)) <= at {
				whole++
			}
			d, cut := drive("6.2", s[:at/2], s[at/2:at]), drive("6.2", records(l[:whole]...), "")
			d.Files[1], cut.Files[1] = api.File{Name: "epoch", Safe: "6", Tail: ".2"}, api.File{Name: "epoch", Safe: "6", Tail: ".2"}
			want := api.Server{Up: true, Disk: cut, Peer: api.Peer{Id: id, Epoch: 6, Log: l[:whole]}, Tree: tree.New()}
			servers(t, fmt.Sprint("torn at ", at), want)(Boot(id, d))
		}
	}
}

// P10.2: an epoch that is none, or the last one; a log that is none, or that has other bytes.
func TestBootEdges(t *testing.T) {
	for text, epoch := range map[string]int{"": 0, "x": 0, "07.0": 0, "7": 0, "2147483648.0": 0, "2147483647.9": most} {
		want := api.Server{Up: true, Disk: drive(text, "", ""), Peer: api.Peer{Id: 2, Epoch: epoch}, Tree: tree.New()}
		servers(t, "an epoch", want)(Boot(2, drive(text, "", "")))
		servers(t, "no log", want)(Boot(2, lacking(drive(text, "", ""), "log")))
		servers(t, "other bytes", want)(Boot(2, drive(text, "x", records(seven()...))))
	}
	whole := crowd(api.MaxFiles, api.File{Name: "log"})
	servers(t, "the last file", api.Server{Up: true, Disk: whole, Tree: tree.New()})(Boot(0, crowd(api.MaxFiles-1)))
	servers(t, "a full disk", api.Server{Up: true, Disk: whole, Tree: tree.New()})(Boot(0, crowd(api.MaxFiles, api.File{Name: "log", Tail: "x"})))
}

// P10.2: numbers that no server has, ahead of Recover's errors.
func TestBootErrors(t *testing.T) {
	for _, id := range []int{-1, -2, 3, 4, 1 << 32, math.MinInt, math.MaxInt} {
		for _, d := range []api.Disk{{}, drive("1.0", records(seven()...), ""), crowd(api.MaxFiles), crowd(api.MaxFiles + 1)} {
			refused(t, fmt.Sprint("number ", id), api.ErrRange)(Boot(id, d))
		}
	}
	for id := range api.Servers {
		refused(t, "a full disk", api.ErrFull)(Boot(id, crowd(api.MaxFiles)))
		for what, d := range bads() {
			refused(t, what, api.ErrRange)(Boot(id, d))
		}
	}
}

// P10.3: of what was not safe so many bytes of each file stay; of all else the number alone. Whether it was up is not asked.
func TestCrash(t *testing.T) {
	s := records(seven()...)
	for _, id := range []int{0, 1, 2, 3, -1, math.MinInt, math.MaxInt} {
		for keep, tails := range map[int][3]string{
			0: {"", "", ""}, 1: {"t", s[70:71], "t"}, 3: {"two", s[70:73], "thr"}, 5: {"two", s[70:75], "three"},
			len(s) - 71: {"two", s[70 : len(s)-1], "three"}, len(s) - 70: {"two", s[70:], "three"}, math.MaxInt: {"two", s[70:], "three"},
		} {
			for _, up := range []bool{true, false} {
				a := server(drive("6.0", s[:70], s[70:]), seven(), 3)
				a.Up, a.Peer.Id = up, id
				left := drive("6.0", s[:70]+tails[1], "")
				left.Files[0] = api.File{Name: "a", Safe: "one" + tails[0]}
				left.Files[3] = api.File{Name: "z", Safe: tails[2]}
				want := api.Server{Disk: left, Peer: api.Peer{Id: id}, Tree: tree.New()}
				servers(t, fmt.Sprint("keep ", keep), want)(Crash(a, keep))
			}
		}
	}
	servers(t, "nothing", api.Server{Tree: tree.New()})(Crash(api.Server{}, 0))
}

// P10.3: nothing but the disk and keep is wrong.
func TestCrashErrors(t *testing.T) {
	for _, keep := range []int{-1, -5, math.MinInt} {
		refused(t, "keep", api.ErrRange)(Crash(api.Server{}, keep))
		refused(t, "keep", api.ErrRange)(Crash(server(drive("6.0", "", ""), seven(), 3), keep))
	}
	for what, d := range bads() {
		for _, keep := range []int{0, 9, math.MaxInt, -1} {
			refused(t, what, api.ErrRange)(Crash(server(d, seven(), 3), keep))
		}
	}
	wild := server(drive("6.0", "x", ""), []api.Txn{open(9, 1), open(2, 0)}, -9)
	wild.Tree = api.Tree{Zxid: -1}
	servers(t, "a wild one", api.Server{Disk: api.Disk{Files: []api.File{
		{Name: "a", Safe: "one"}, {Name: "epoch", Safe: "6.0"}, {Name: "log", Safe: "x"}, {Name: "z"},
	}}, Peer: api.Peer{Id: 1}, Tree: tree.New()})(Crash(wild, 0))
}

// P10.4: one behind the other, safe or not: behind one that is safe all are. Nothing but the log and its file changes.
func TestTake(t *testing.T) {
	l := seven()
	for mask := range 1 << len(l) {
		a := server(drive("6.0", "x", "y"), nil, 0)
		safe, tail := "x", "y"
		for i, x := range l {
			tail += recordOf(x)
			if mask>>i&1 == 1 {
				safe, tail = safe+tail, ""
			}
			want := server(drive("6.0", safe, tail), l[:i+1], 0)
			got, e := Take(a, x, mask>>i&1 == 1)
			servers(t, "Take", want)(got, e)
			a = got
		}
	}
}

// P10.4: a log's file is made; a server that is down takes as one that is up; Done, tree and watches are not looked at.
func TestTakeEdges(t *testing.T) {
	x := made(top, most, strings.Repeat("/abcd", api.MaxPath/5))
	x.Data = strings.Repeat("d", api.MaxData)
	for _, safe := range []bool{true, false} {
		f := api.File{Name: "log", Tail: recordOf(x)}
		if safe {
			f.Safe, f.Tail = f.Tail, ""
		}
		servers(t, "nothing", api.Server{Disk: api.Disk{Files: []api.File{f}}, Peer: api.Peer{Log: []api.Txn{x}}})(Take(api.Server{}, x, safe))
		servers(t, "the last file", server(crowd(api.MaxFiles, f), []api.Txn{x}, 0))(Take(server(crowd(api.MaxFiles-1), nil, 0), x, safe))
		wild, want := server(crowd(2), seven(), -3), server(crowd(3, f), append(seven(), x), -3)
		wild.Tree.Zxid, want.Tree.Zxid = -8, -8
		wild.Peer.Id, want.Peer.Id = 77, 77
		wild.Peer.Epoch, want.Peer.Epoch = -6, -6
		servers(t, "a wild one", want)(Take(wild, x, safe))
	}
}

// P10.4: a number that is not above the log's last one, be the disk's log another; ahead of Append's errors. The first one is above 0.
func TestTakeOrder(t *testing.T) {
	for _, safe := range []bool{true, false} {
		for _, z := range []int{0, -1, math.MinInt} {
			refused(t, "the first one", api.ErrOrder)(Take(server(drive("", "", ""), nil, 0), open(z, 1), safe))
			refused(t, "the first one, a bad disk", api.ErrOrder)(Take(server(crowd(api.MaxFiles+1), nil, 0), api.Txn{Zxid: z}, safe))
		}
		for _, z := range []int{9, 8, 1, 0, -1, math.MinInt} {
			for _, x := range []api.Txn{open(z, 1), {Zxid: z}, made(z, 1, "a")} {
				for _, d := range []api.Disk{{}, drive("", records(open(1, 1)), ""), crowd(api.MaxFiles), crowd(api.MaxFiles + 1)} {
					refused(t, "behind 9", api.ErrOrder)(Take(server(d, []api.Txn{open(3, 1), open(9, 1)}, 0), x, safe))
				}
			}
		}
		l := []api.Txn{open(9, 1), open(3, 1)}
		refused(t, "behind 9 and 3", api.ErrOrder)(Take(server(api.Disk{}, l, 0), open(3, 1), safe))
		for _, z := range []int{4, 9} {
			got, e := Take(server(api.Disk{}, l, 0), open(z, 1), safe)
			if e != api.OK || !slices.Equal(got.Peer.Log, append(slices.Clone(l), open(z, 1))) {
				t.Errorf("behind 9 and 3: %v, %d", got.Peer, e)
			}
		}
	}
}

// P10.4: Append's errors: what is wrong with the transaction, then with the disk.
func TestTakeErrors(t *testing.T) {
	long := made(9, 1, "/a")
	long.Data = strings.Repeat("d", api.MaxData+1)
	for _, safe := range []bool{true, false} {
		for _, d := range []api.Disk{{}, drive("", "", ""), crowd(api.MaxFiles), crowd(api.MaxFiles + 1)} {
			a := server(d, []api.Txn{open(8, 1)}, 0)
			refused(t, "no kind", api.ErrKind)(Take(a, api.Txn{Zxid: 9, Session: 1}, safe))
			refused(t, "no session", api.ErrRange)(Take(a, open(9, 0), safe))
			refused(t, "no zxid", api.ErrRange)(Take(a, open(top+1, 1), safe))
			refused(t, "too much data", api.ErrLong)(Take(a, long, safe))
			refused(t, "no path", api.ErrForm)(Take(a, made(9, 1, "a"), safe))
		}
		for what, d := range bads() {
			refused(t, what, api.ErrRange)(Take(server(d, nil, 0), open(1, 1), safe))
		}
		refused(t, "full", api.ErrFull)(Take(server(crowd(api.MaxFiles), nil, 0), open(1, 1), safe))
		x := open(1, 1)
		room := strings.Repeat("x", api.MaxFile-len(recordOf(x)))
		refused(t, "too long", api.ErrLong)(Take(server(drive("", room, "y"), nil, 0), x, safe))
		got, e := Take(server(drive("", room[1:], "y"), nil, 0), x, safe)
		if s, _ := disk.Read(got.Disk, "log"); e != api.OK || s != room[1:]+"y"+recordOf(x) {
			t.Errorf("just long enough: %d, %d bytes", e, len(s))
		}
	}
}

// stage is a server whose log no one has done yet, its tree new, with watches.
func stage(l []api.Txn, w ...api.Watch) api.Server {
	return api.Server{Up: true, Disk: drive("6.0", records(l...), ""), Peer: api.Peer{Id: 2, Epoch: 6, Log: l}, Tree: tree.New(), Watches: w}
}

// committed holds Commit to a tree, watches and notes; all else stays, but for Done.
func committed(t *testing.T, what string, a api.Server, n int, want api.Tree, left []api.Watch, notes []api.Note) api.Server {
	t.Helper()
	got, told, e := Commit(a, n)
	b := a
	b.Peer.Done, b.Tree, b.Watches = n, want, left
	servers(t, what, b)(got, e)
	if !slices.Equal(told, notes) {
		t.Errorf("%s: notes %v; asked for %v", what, told, notes)
	}
	return got
}

// unmade holds Commit to an error, and to nothing beside it.
func unmade(t *testing.T, what string, a api.Server, n int, want api.Errno) {
	t.Helper()
	got, notes, e := Commit(a, n)
	refused(t, what, want)(got, e)
	if len(notes) != 0 {
		t.Errorf("%s: notes %v", what, notes)
	}
}

// grown is the trees of the seven transactions, written out: the i-th one is behind i of them.
func grown() []api.Tree {
	root := func(pzxid, cversion, kids int) api.Node {
		return api.Node{Path: "/", Stat: api.Stat{Pzxid: pzxid, Cversion: cversion, Kids: kids}}
	}
	a := api.Node{Path: "/a", Data: odds, Stat: api.Stat{Czxid: 3, Mzxid: 3, Pzxid: 3}}
	parent := a
	parent.Stat.Pzxid, parent.Stat.Cversion, parent.Stat.Kids = 5, 1, 1
	changed := parent
	changed.Data, changed.Stat.Mzxid, changed.Stat.Version = "new", next+1, 1
	left := changed
	left.Stat.Pzxid, left.Stat.Cversion, left.Stat.Kids = next+9, 2, 0
	b := api.Node{Path: "/a/b", Stat: api.Stat{Czxid: 5, Mzxid: 5, Pzxid: 5, Owner: 7}}
	c := api.Node{Path: "/c", Stat: api.Stat{Czxid: next, Mzxid: next, Pzxid: next, Owner: 7}}
	both := []int{7, 8}
	return []api.Tree{
		{Nodes: []api.Node{root(0, 0, 0)}},
		{Zxid: 1, Nodes: []api.Node{root(0, 0, 0)}, Sessions: []int{7}},
		{Zxid: 2, Nodes: []api.Node{root(0, 0, 0)}, Sessions: both},
		{Zxid: 3, Nodes: []api.Node{root(3, 1, 1), a}, Sessions: both},
		{Zxid: 5, Nodes: []api.Node{root(3, 1, 1), parent, b}, Sessions: both},
		{Zxid: next, Nodes: []api.Node{root(next, 2, 2), parent, b, c}, Sessions: both},
		{Zxid: next + 1, Nodes: []api.Node{root(next, 2, 2), changed, b, c}, Sessions: both},
		{Zxid: next + 9, Nodes: []api.Node{root(next+9, 3, 1), left}, Sessions: []int{8}},
	}
}

// P10.5: the tree behind each of the transactions, in one go, in two, and in three; Done is n then.
func TestCommit(t *testing.T) {
	trees := grown()
	l := seven()
	for i := range len(l) + 1 {
		one := committed(t, "in one go", stage(l), i, trees[i], nil, nil)
		for j := i; j <= len(l); j++ {
			two := committed(t, "in two", one, j, trees[j], nil, nil)
			for k := j; k <= len(l); k++ {
				committed(t, "in three", two, k, trees[k], nil, nil)
			}
		}
	}
}

func data(session int, p string) api.Watch {
	return api.Watch{Session: session, Kind: api.WatchData, Path: p}
}

func kids(session int, p string) api.Watch {
	return api.Watch{Session: session, Kind: api.WatchKids, Path: p}
}

func note(session, kind int, p string) api.Note {
	return api.Note{Session: session, Event: api.Event{Kind: kind, Path: p}}
}

// P10.5: notes come transaction by transaction, event by event, watch by watch, and each watch is told once.
func TestCommitNotes(t *testing.T) {
	trees := grown()
	watches := []api.Watch{
		kids(5, "/"), data(8, "/a"), data(6, "/a"), kids(8, "/a"), data(8, "/c"), kids(6, "/c"), data(5, "/zz"), data(8, "/"),
	}
	first := []api.Note{note(8, api.EventMade, "/a"), note(6, api.EventMade, "/a"), note(5, api.EventKids, "/")}
	second := []api.Note{note(8, api.EventKids, "/a")}
	third := []api.Note{note(8, api.EventMade, "/c")}
	fourth := []api.Note{note(6, api.EventGone, "/c")}
	steps := []struct {
		n     int
		left  []api.Watch
		notes []api.Note
	}{
		{0, watches, nil},
		{2, watches, nil},
		{3, []api.Watch{watches[3], watches[4], watches[5], watches[6], watches[7]}, first},
		{4, []api.Watch{watches[4], watches[5], watches[6], watches[7]}, second},
		{5, []api.Watch{watches[5], watches[6], watches[7]}, third},
		{6, []api.Watch{watches[5], watches[6], watches[7]}, nil},
		{7, []api.Watch{watches[6], watches[7]}, fourth},
	}
	l := seven()
	a := stage(l, watches...)
	var all []api.Note
	for _, s := range steps {
		all = append(all, s.notes...)
		committed(t, "in one go", stage(l, watches...), s.n, trees[s.n], s.left, all)
		a = committed(t, "step by step", a, s.n, trees[s.n], s.left, s.notes)
	}
}

// P10.5: a session that is closed is told first, of its own nodes too; then its watches go, and no others.
func TestCommitClose(t *testing.T) {
	l := []api.Txn{open(1, 7), open(2, 8), owned(3, 7, "/b"), owned(4, 7, "/c"), closed(5, 7), made(6, 8, "/b")}
	watches := []api.Watch{data(7, "/b"), data(7, "/zz"), kids(7, "/"), data(8, "/b"), kids(8, "/zz"), kids(7, "/c")}
	a, _, _ := Commit(stage(l), 4)
	a.Watches = watches
	notes := []api.Note{note(7, api.EventGone, "/b"), note(8, api.EventGone, "/b"), note(7, api.EventKids, "/"), note(7, api.EventGone, "/c")}
	root := api.Node{Path: "/", Stat: api.Stat{Pzxid: 5, Cversion: 4}}
	b := committed(t, "OpClose", a, 5, api.Tree{Zxid: 5, Nodes: []api.Node{root}, Sessions: []int{8}}, []api.Watch{kids(8, "/zz")}, notes)

	root.Stat = api.Stat{Pzxid: 6, Cversion: 5, Kids: 1}
	last := api.Tree{Zxid: 6, Nodes: []api.Node{root, {Path: "/b", Data: odds, Stat: api.Stat{Czxid: 6, Mzxid: 6, Pzxid: 6}}}, Sessions: []int{8}}
	committed(t, "a node behind it", b, 6, last, []api.Watch{kids(8, "/zz")}, nil)
	committed(t, "both at once", a, 6, last, []api.Watch{kids(8, "/zz")}, notes)

	for _, x := range []api.Txn{open(5, 9), made(5, 7, "/d"), gone(5, 7, "/c"), set(5, 7, 1, "/c")} {
		a.Peer.Log = append(l[:4:4], x)
		a.Watches = []api.Watch{data(7, "/zz"), data(9, "/zz")}
		got, told, e := Commit(a, 5)
		if e != api.OK || !slices.Equal(got.Watches, a.Watches) || len(told) != 0 {
			t.Errorf("%v: %v, %v, %d", x, got.Watches, told, e)
		}
	}
}

// P10.5: watches that Add would refuse are asked as they come: two that are alike are both told.
func TestCommitWatches(t *testing.T) {
	l := []api.Txn{open(1, 7), made(2, 7, "/a")}
	want, _, _ := Commit(stage(l), 2)
	odd := api.Watch{Session: -3, Kind: 77, Path: "/a"}
	notes := []api.Note{note(8, api.EventMade, "/a"), note(-3, api.EventMade, "/a"), note(8, api.EventMade, "/a")}
	committed(t, "odd ones", stage(l, data(8, "/a"), odd, data(8, "/a"), data(8, "a")), 2, want.Tree, []api.Watch{data(8, "a")}, notes)
}

// P10.5: n and Done out of their bounds, whatever the tree is.
func TestCommitRange(t *testing.T) {
	for size := range 5 {
		for _, done := range []int{math.MinInt, -2, -1, 0, 1, 2, 3, 4, 5, 6, math.MaxInt} {
			for _, n := range []int{math.MinInt, -2, -1, 0, 1, 2, 3, 4, 5, 6, math.MaxInt} {
				a := stage(seven()[:size])
				a.Peer.Done = done
				if 0 <= done && done <= n && n <= size {
					a.Tree = grown()[done]
					committed(t, "within", a, n, grown()[n], nil, nil)
					continue
				}
				unmade(t, fmt.Sprint(size, done, n), a, n, api.ErrRange)
				a.Tree = api.Tree{}
				unmade(t, fmt.Sprint(size, done, n), a, n, api.ErrRange)
			}
		}
	}
}

// P10.5: Apply's errors of the first one that has any, be it behind others that went well; what is behind n, or ahead of Done, is not asked.
func TestCommitErrors(t *testing.T) {
	for _, c := range []struct {
		x    api.Txn
		want api.Errno
	}{
		{api.Txn{Zxid: 9}, api.ErrKind},
		{open(9, 0), api.ErrRange},
		{made(9, 7, "a"), api.ErrForm},
		{open(3, 9), api.ErrOrder},
		{open(9, 7), api.ErrTwice},
		{closed(9, 9), api.ErrSession},
		{made(9, 7, "/a"), api.ErrTwice},
		{made(9, 7, "/b/c"), api.ErrNone},
		{gone(9, 7, "/b"), api.ErrNone},
		{set(9, 7, 2, "/a"), api.ErrVersion},
	} {
		l := append(seven()[:3], c.x, open(11, 11), api.Txn{})
		a := stage(l, data(8, "/a"), kids(8, "/"))
		for n := 4; n <= 6; n++ {
			unmade(t, fmt.Sprint(c.x), a, n, c.want)
			done, _, _ := Commit(a, 3)
			unmade(t, fmt.Sprint(c.x), done, n, c.want)
		}
		committed(t, "ahead of it", a, 3, grown()[3], nil, []api.Note{note(8, api.EventMade, "/a"), note(8, api.EventKids, "/")})
		behind := stage(l)
		behind.Peer.Done, behind.Tree = 4, grown()[3]
		want, _, _ := tree.Apply(grown()[3], open(11, 11))
		committed(t, "behind it", behind, 5, want, nil, nil)
	}
}

// P10.5: a tree that is not good is Apply's error, if there is anything to do; the disk is not asked for anything.
func TestCommitBadTree(t *testing.T) {
	for _, bad := range []api.Tree{{}, {Zxid: -1, Nodes: []api.Node{{Path: "/"}}}, {Nodes: []api.Node{{Path: "/a"}}}, {Nodes: []api.Node{{Path: "/"}}, Sessions: []int{0}}} {
		a := stage(seven(), data(7, "/a"))
		a.Tree = bad
		for n := 1; n <= 7; n++ {
			unmade(t, "a bad tree", a, n, api.ErrRange)
		}
		committed(t, "nothing to do", a, 0, bad, a.Watches, nil)
		a.Peer.Done = 7
		committed(t, "nothing left to do", a, 7, bad, a.Watches, nil)
	}
	for what, d := range bads() {
		a := stage(seven())
		a.Disk, a.Up = d, false
		committed(t, what, a, 7, grown()[7], nil, nil)
	}
}

// P10.6: logs with a beginning in common, of all lengths: the log, its file and the epoch are the leader's; all else stays.
func TestFollow(t *testing.T) {
	l := seven()
	other := []api.Txn{open(4, 21), open(next+4, 22), open(top, 23)}
	for mine := range len(l) + 1 {
		for theirs := range len(l) + 1 {
			for n := range len(other) + 1 {
				lead := append(l[:theirs:theirs], other[n:]...)
				if !slices.IsSortedFunc(lead, func(a, b api.Txn) int { return a.Zxid - b.Zxid }) {
					continue
				}
				for done := range min(mine, theirs) + 1 {
					s := records(l[:mine]...)
					a := server(drive("6.0", s[:len(s)/2], s[len(s)/2:]), l[:mine], done)
					want := server(drive("9.0", records(lead...), ""), lead, done)
					want.Peer.Epoch = 9
					servers(t, fmt.Sprint(mine, theirs, n, done), want)(Follow(a, lead, 9))
				}
			}
		}
	}
}

// P10.6: what was committed must be in common; Keep's and Remember's errors come behind that.
func TestFollowDone(t *testing.T) {
	l := seven()
	for k := range len(l) {
		lead := append(l[:k:k], open(l[k].Zxid+1, 30))
		for _, done := range []int{k + 1, k + 2, len(l), len(l) + 1, math.MaxInt} {
			for _, d := range []api.Disk{drive("6.0", records(l...), ""), crowd(api.MaxFiles), crowd(api.MaxFiles + 1)} {
				refused(t, "another one", api.ErrOrder)(Follow(server(d, l, done), lead, 9))
				refused(t, "another one, an epoch", api.ErrOrder)(Follow(server(d, l, done), lead, -1))
				refused(t, "too few", api.ErrOrder)(Follow(server(d, l, done), l[:k], 9))
				refused(t, "too few of its own", api.ErrOrder)(Follow(server(d, l[:k], done), l, 9))
			}
		}
		for _, done := range []int{k, 0, -1, math.MinInt} {
			want := server(drive("9.0", records(lead...), ""), lead, done)
			want.Peer.Epoch = 9
			servers(t, "in common", want)(Follow(server(drive("6.0", records(l...), ""), l, done), lead, 9))
		}
	}
}

// P10.6: numbers alone are in common: the server's own transactions stay, in its log and in the file.
func TestFollowOwn(t *testing.T) {
	mine := []api.Txn{open(1, 7), made(2, 7, "/mine"), open(5, 9)}
	lead := []api.Txn{closed(1, 8), made(2, 7, "/theirs"), open(4, 10), made(6, 7, "/theirs")}
	both := []api.Txn{mine[0], mine[1], lead[2], lead[3]}
	want := server(drive("0.0", records(both...), ""), both, 2)
	want.Peer.Epoch = 0
	servers(t, "Follow", want)(Follow(server(drive("6.0", records(mine...), "torn"), mine, 2), lead, 0))
}

// P10.6: the first one that differs ends what is in common, though numbers behind it are alike.
func TestFollowGap(t *testing.T) {
	mine := []api.Txn{open(1, 1), open(2, 2), open(4, 4), open(5, 5)}
	lead := []api.Txn{open(1, 1), open(3, 3), open(4, 4), open(5, 5)}
	want := server(drive("9.0", records(lead...), ""), lead, 1)
	want.Peer.Epoch = 9
	servers(t, "a gap", want)(Follow(server(drive("6.0", records(mine...), ""), mine, 1), lead, 9))
	refused(t, "a gap", api.ErrOrder)(Follow(server(drive("6.0", records(mine...), ""), mine, 2), lead, 9))
}

// P10.6: with nothing in common nothing is kept, not even a transaction whose number is 0; without logs the file is there.
func TestFollowNothing(t *testing.T) {
	want := server(drive("9.0", "", ""), nil, 0)
	want.Peer.Epoch = 9
	for _, l := range [][]api.Txn{nil, {}} {
		servers(t, "no log", want)(Follow(server(drive("6.0", records(open(0, 1), open(1, 1)), ""), []api.Txn{open(0, 1), open(1, 1)}, 0), l, 9))
		servers(t, "no log", want)(Follow(server(drive("6.0", records(seven()...), "x"), l, 0), l, 9))
		servers(t, "no file", want)(Follow(server(lacking(drive("6.0", "", ""), "log"), seven(), 0), l, 9))
		bare := api.Server{Disk: api.Disk{Files: []api.File{{Name: "epoch", Safe: "0.0"}, {Name: "log"}}}}
		servers(t, "no files", bare)(Follow(api.Server{}, l, 0))
	}
	zero := []api.Txn{open(0, 1), open(1, 1)}
	kept := server(drive("9.0", records(zero...), ""), zero, 0)
	kept.Peer.Epoch = 9
	servers(t, "0 in common", kept)(Follow(server(drive("6.0", records(zero[0]), ""), zero[:1], 0), zero, 9))
}

// P10.6: the file is cut by number, whatever it has that the log has not.
func TestFollowFile(t *testing.T) {
	l := []api.Txn{open(2, 1), open(4, 1)}
	lead := []api.Txn{open(2, 1), open(6, 1)}
	for _, c := range []struct{ file, want string }{
		{"", records(open(6, 1))},
		{"x", records(open(6, 1))},
		{records(open(1, 9), open(2, 9), open(3, 9)), records(open(1, 9), open(2, 9), open(6, 1))},
		{records(open(3, 9)), records(open(6, 1))},
		{records(open(2, 9), open(2, 9)), records(open(2, 9), open(6, 1))},
		{records(open(1, 9)) + "x" + records(open(2, 9)), records(open(1, 9), open(6, 1))},
	} {
		for at := range len(c.file) + 1 {
			want := server(drive("9.0", c.want, ""), lead, 1)
			want.Peer.Epoch = 9
			servers(t, "Follow", want)(Follow(server(drive("6.0", c.file[:at], c.file[at:]), l, 1), lead, 9))
		}
	}
}

// P10.6: Keep's errors, then Remember's, then those of Take.
func TestFollowErrors(t *testing.T) {
	l := seven()
	wrong := append(l[:3:3], api.Txn{Zxid: 4})
	log := api.File{Name: "log", Safe: records(l...)}
	for _, lead := range [][]api.Txn{l, l[:3], wrong, nil} {
		for _, epoch := range []int{9, -1, most + 1} {
			refused(t, "no room for a log", api.ErrFull)(Follow(server(crowd(api.MaxFiles), l, 0), lead, epoch))
			for what, d := range bads() {
				refused(t, what, api.ErrRange)(Follow(server(d, l, 0), lead, epoch))
			}
		}
		for _, epoch := range []int{-1, most + 1, math.MinInt, math.MaxInt} {
			refused(t, "an epoch", api.ErrRange)(Follow(server(drive("6.0", log.Safe, ""), l, 0), lead, epoch))
			refused(t, "an epoch, a full disk", api.ErrRange)(Follow(server(crowd(api.MaxFiles, log), l, 0), lead, epoch))
		}
		refused(t, "no room for an epoch", api.ErrFull)(Follow(server(crowd(api.MaxFiles, log), l, 0), lead, 9))
		refused(t, "room for one of two", api.ErrFull)(Follow(server(crowd(api.MaxFiles-1), l, 0), lead, 9))
	}
	want := server(crowd(api.MaxFiles, api.File{Name: "epoch", Safe: "2147483647.0"}, log), l, 7)
	want.Peer.Epoch = most
	servers(t, "just room", want)(Follow(server(crowd(api.MaxFiles-1, log), l, 7), l, most))
}

// P10.6: Take's errors of the first one behind those in common that has any; of those in common nothing is asked.
func TestFollowTake(t *testing.T) {
	l := seven()[:3]
	long := made(6, 1, "/a")
	long.Data = strings.Repeat("d", api.MaxData+1)
	for _, c := range []struct {
		behind []api.Txn
		want   api.Errno
	}{
		{[]api.Txn{{Zxid: 4}}, api.ErrKind},
		{[]api.Txn{open(4, 1), open(5, 0)}, api.ErrRange},
		{[]api.Txn{open(4, 1), open(top+1, 1)}, api.ErrRange},
		{[]api.Txn{open(4, 1), open(5, 1), long, {}}, api.ErrLong},
		{[]api.Txn{open(4, 1), made(5, 1, "a"), long}, api.ErrForm},
		{[]api.Txn{open(3, 1)}, api.ErrOrder},
		{[]api.Txn{{Zxid: -1}}, api.ErrOrder},
		{[]api.Txn{open(4, 1), open(4, 1), {Zxid: 9}}, api.ErrOrder},
		{[]api.Txn{open(4, 1), {Zxid: 9}, open(4, 1)}, api.ErrKind},
	} {
		for _, d := range []api.Disk{{}, drive("6.0", records(l...), "")} {
			for done := range 4 {
				refused(t, fmt.Sprint(c.behind), c.want)(Follow(server(d, l, done), append(l[:3:3], c.behind...), 9))
			}
		}
	}
	refused(t, "0 is the first one", api.ErrOrder)(Follow(server(api.Disk{}, nil, 0), []api.Txn{open(0, 1)}, 9))
	wild := []api.Txn{{Zxid: 9}, {Zxid: -4, Path: "x"}}
	lead := append(slices.Clone(wild), open(1, 1))
	want := server(drive("9.0", records(open(1, 1)), ""), lead, 2)
	want.Peer.Epoch = 9
	servers(t, "in common", want)(Follow(server(drive("6.0", "", ""), wild, 2), lead, 9))
}

// P10.6: a log's file that has no room for one more.
func TestFollowLong(t *testing.T) {
	var l []api.Txn
	size := 0
	for z := 1; size <= api.MaxFile; z++ {
		x := made(z, 1, strings.Repeat("/abcd", api.MaxPath/5))
		x.Data = strings.Repeat("d", api.MaxData)
		l = append(l, x)
		size += len(recordOf(x))
	}
	n := len(l) - 1
	a := server(drive("6.0", records(l[:n-5]...), ""), l[:n-5], 0)
	want := server(drive("9.0", records(l[:n]...), ""), l[:n], 0)
	want.Peer.Epoch = 9
	servers(t, "just room", want)(Follow(a, l[:n], 9))
	refused(t, "one too many", api.ErrLong)(Follow(a, l, 9))
	refused(t, "one too many, a wrong one", api.ErrLong)(Follow(a, append(l[:n+1:n+1], api.Txn{}), 9))
	refused(t, "a wrong one ahead", api.ErrOrder)(Follow(a, append(l[:n:n], api.Txn{}, l[n]), 9))
}
