package snap

import (
	"encoding/binary"
	"encoding/hex"
	"fmt"
	"hash/crc32"
	"math"
	"math/rand"
	"reflect"
	"slices"
	"strings"
	"testing"
	"unsafe"

	"aviary/api"
	"aviary/tree"
)

const (
	most = 1<<31 - 1 // of versions, and of a session's number
	top  = 1<<62 - 1 // the greatest zxid
	odds = "\x00\xffS/"
)

// base is a good tree whose numbers all differ, so that no two can be taken for each other.
func base() api.Tree {
	return api.Tree{
		Zxid: 0x0102030405060708,
		Nodes: []api.Node{
			{Path: "/", Data: "r", Stat: api.Stat{Czxid: 0, Mzxid: 0x1112, Pzxid: 0x2122, Version: 0x31, Cversion: 0x41, Kids: 2}},
			{Path: "/a", Data: odds, Stat: api.Stat{Czxid: 0x51, Mzxid: 0x0102030405060707, Pzxid: 0x62, Version: 0x7F010203, Cversion: 0x72, Kids: 1}},
			{Path: "/a/b", Stat: api.Stat{Czxid: 0x52, Mzxid: 0x53, Pzxid: 0x54, Version: 7, Cversion: 8, Owner: 0x01020304}},
			{Path: "/z_9-", Data: "z", Stat: api.Stat{Czxid: 0x55, Mzxid: 0x56, Pzxid: 0x57, Owner: most}},
		},
		Sessions: []int{1, 0x01020304, most},
	}
}

// with is the base tree behind a change.
func with(change func(*api.Tree)) api.Tree {
	t := base()
	change(&t)
	return t
}

// full is a good tree of n nodes, all below the root, and of so many sessions.
func full(n, sessions int) api.Tree {
	t := api.Tree{Zxid: 1, Nodes: []api.Node{{Path: "/", Stat: api.Stat{Pzxid: 1, Cversion: n - 1, Kids: n - 1}}}}
	for i := range n - 1 {
		t.Nodes = append(t.Nodes, api.Node{Path: fmt.Sprintf("/n%04d", i), Data: strings.Repeat("d", i%(api.MaxData+1)), Stat: api.Stat{Czxid: 1, Mzxid: 1, Pzxid: 1}})
	}
	for i := range sessions {
		t.Sessions = append(t.Sessions, i+1)
	}
	return t
}

// deep is a good tree with a path of just MaxPath bytes, and data of just MaxData.
func deep() api.Tree {
	t := api.Tree{Zxid: top, Nodes: []api.Node{{Path: "/", Stat: api.Stat{Kids: 1}}}}
	step := "/" + strings.Repeat("s", api.MaxName-1)
	for i := range api.MaxPath / api.MaxName {
		s := api.Stat{Czxid: top, Mzxid: top, Pzxid: top, Version: most, Cversion: most, Kids: 1}
		t.Nodes = append(t.Nodes, api.Node{Path: strings.Repeat(step, i+1), Data: strings.Repeat("\xff", api.MaxData), Stat: s})
	}
	t.Nodes[len(t.Nodes)-1].Stat.Kids = 0
	return t
}

// goods is trees without a fault, the edges among them.
func goods() map[string]api.Tree {
	return map[string]api.Tree{
		"new":           tree.New(),
		"base":          base(),
		"deep":          deep(),
		"all nodes":     full(api.MaxNodes, 0),
		"many sessions": full(1, 70000),
		"no sessions":   {Zxid: 3, Nodes: []api.Node{{Path: "/"}}, Sessions: []int{}},
		"of the top":    {Zxid: top, Nodes: []api.Node{{Path: "/", Stat: api.Stat{Czxid: top, Mzxid: top, Pzxid: top, Version: most, Cversion: most}}}, Sessions: []int{most}},
	}
}

// bads is trees that are not good, each by one fault. Their numbers have room in their bytes, so that Read comes upon the fault, too.
func bads() map[string]api.Tree {
	l := map[string]api.Tree{
		"nothing":                {},
		"no root":                {Nodes: []api.Node{{Path: "/a"}}},
		"no nodes":               with(func(t *api.Tree) { t.Nodes = nil }),
		"too many":               full(api.MaxNodes+1, 1),
		"falling":                with(func(t *api.Tree) { t.Nodes[1], t.Nodes[3] = t.Nodes[3], t.Nodes[1] }),
		"twice":                  with(func(t *api.Tree) { t.Nodes[3] = t.Nodes[2] }),
		"no parent":              with(func(t *api.Tree) { t.Nodes[2].Path = "/b/b" }),
		"no path":                with(func(t *api.Tree) { t.Nodes[3].Path = "/z/" }),
		"an empty path":          with(func(t *api.Tree) { t.Nodes[0].Path = "" }),
		"a long step":            with(func(t *api.Tree) { t.Nodes[3].Path = "/" + strings.Repeat("z", api.MaxName+1) }),
		"long data":              with(func(t *api.Tree) { t.Nodes[1].Data = strings.Repeat("d", api.MaxData+1) }),
		"the longest data":       with(func(t *api.Tree) { t.Nodes[1].Data = strings.Repeat("d", 1<<16-1) }),
		"an owned root":          {Zxid: 1, Nodes: []api.Node{{Path: "/", Stat: api.Stat{Owner: 1}}}, Sessions: []int{1}},
		"no such owner":          with(func(t *api.Tree) { t.Nodes[2].Stat.Owner = 5 }),
		"an owned node's child":  with(func(t *api.Tree) { t.Nodes[1].Stat.Owner = 1 }),
		"sessions fall":          with(func(t *api.Tree) { slices.Reverse(t.Sessions) }),
		"a session twice":        with(func(t *api.Tree) { t.Sessions = []int{1, 1, 0x01020304, most} }),
		"session 0":              with(func(t *api.Tree) { t.Sessions[0] = 0 }),
		"a session above all":    with(func(t *api.Tree) { t.Sessions = append(t.Sessions, most+1) }),
		"the greatest session":   with(func(t *api.Tree) { t.Sessions = append(t.Sessions, 1<<32-1) }),
		"created behind changed": with(func(t *api.Tree) { t.Nodes[2].Stat.Czxid = 0x54 }),
		"changed in the future":  with(func(t *api.Tree) { t.Nodes[2].Stat.Mzxid = t.Zxid + 1 }),
		"children in the future": with(func(t *api.Tree) { t.Nodes[2].Stat.Pzxid = t.Zxid + 1 }),
		"a long path": with(func(t *api.Tree) {
			*t = deep()
			t.Nodes[len(t.Nodes)-1].Path += "s"
		}),
		"a path of 255 bytes": with(func(t *api.Tree) { t.Nodes[3].Path = "/" + strings.Repeat("z", 254) }),
	}
	for _, n := range []int{math.MinInt, -1, top + 1, math.MaxInt} {
		l[fmt.Sprintf("zxid %d", n)] = with(func(t *api.Tree) { t.Zxid = n })
	}
	for _, n := range []int{math.MinInt, math.MinInt + 1, -most, -1, most + 1, 1 << 32, math.MaxInt} {
		for _, name := range []string{"Czxid", "Mzxid", "Pzxid", "Version", "Cversion", "Owner", "Kids"} {
			if (name == "Mzxid" || name == "Pzxid") && n > 0 && n <= base().Zxid {
				continue // that may be
			}
			l[fmt.Sprintf("%s %d", name, n)] = with(func(t *api.Tree) {
				reflect.ValueOf(&t.Nodes[2].Stat).Elem().FieldByName(name).SetInt(int64(n))
			})
		}
	}
	return l
}

// sealed is whatever bytes, with the sum behind them that they should have.
func sealed(ahead string) string {
	return string(binary.BigEndian.AppendUint32([]byte(ahead), crc32.ChecksumIEEE([]byte(ahead))))
}

// packed is a tree's bytes without their sum, by another hand than the program's.
func packed(t api.Tree) string {
	o := binary.BigEndian
	b := o.AppendUint64([]byte{'S'}, uint64(t.Zxid))
	b = o.AppendUint32(b, uint32(len(t.Sessions)))
	for _, s := range t.Sessions {
		b = o.AppendUint32(b, uint32(s))
	}
	b = o.AppendUint32(b, uint32(len(t.Nodes)))
	for _, n := range t.Nodes {
		b = append(append(b, byte(len(n.Path))), n.Path...)
		b = append(o.AppendUint16(b, uint16(len(n.Data))), n.Data...)
		s := n.Stat
		for _, x := range [7]int{s.Czxid, s.Mzxid, s.Pzxid, s.Version, s.Cversion, s.Owner, s.Kids} {
			b = o.AppendUint64(b, uint64(x))
		}
	}
	return string(b)
}

func alike(a, b api.Tree) bool {
	return a.Zxid == b.Zxid && slices.Equal(a.Nodes, b.Nodes) && slices.Equal(a.Sessions, b.Sessions)
}

// refused holds Read to an error, and to nothing beside it.
func refused(t *testing.T, what, s string, want api.Errno) {
	t.Helper()
	if a, e := Read(s); e != want || !alike(a, api.Tree{}) {
		t.Errorf("%s: Read(%.60q): %.200v, %d; asked for %d", what, s, a, e, want)
	}
}

// P7.1, P7.2: bytes that are written out.
func TestExample(t *testing.T) {
	a := api.Tree{
		Zxid: 1<<31 + 3,
		Nodes: []api.Node{
			{Path: "/", Stat: api.Stat{Pzxid: 1<<31 + 2, Cversion: 1, Kids: 1}},
			{Path: "/a", Data: "xyz", Stat: api.Stat{Czxid: 1<<31 + 2, Mzxid: 1<<31 + 3, Pzxid: 1<<31 + 2, Version: 1, Owner: 4}},
		},
		Sessions: []int{4, 258},
	}
	ahead := "53" + "0000000080000003" +
		"00000002" + "00000004" + "00000102" +
		"00000002" +
		"01" + "2f" + "0000" +
		"0000000000000000" + "0000000000000000" + "0000000080000002" +
		"0000000000000000" + "0000000000000001" + "0000000000000000" + "0000000000000001" +
		"02" + "2f61" + "0003" + "78797a" +
		"0000000080000002" + "0000000080000003" + "0000000080000002" +
		"0000000000000001" + "0000000000000000" + "0000000000000004" + "0000000000000000"
	b, err := hex.DecodeString(ahead)
	if err != nil {
		t.Fatal(err)
	}
	want := sealed(string(b))
	if s, e := Write(a); s != want || e != api.OK {
		t.Errorf("Write: %x, %d", s, e)
	}
	if got, e := Read(want); !alike(got, a) || e != api.OK {
		t.Errorf("Read: %v, %d", got, e)
	}
}

// P7.1, P7.2: of a new tree all bytes, its sum too.
func TestNewTree(t *testing.T) {
	b, err := hex.DecodeString("53" + strings.Repeat("00", 12) + "00000001" + "012f0000" + strings.Repeat("00", 56) + "6e548221")
	if err != nil {
		t.Fatal(err)
	}
	if s, e := Write(tree.New()); s != string(b) || e != api.OK {
		t.Errorf("Write: %x, %d", s, e)
	}
	if got, e := Read(string(b)); !alike(got, tree.New()) || e != api.OK {
		t.Errorf("Read: %v, %d", got, e)
	}
}

// P7.1
func TestWrite(t *testing.T) {
	for what, a := range goods() {
		if s, e := Write(a); s != sealed(packed(a)) || e != api.OK {
			t.Errorf("%s: %.200x, %d", what, s, e)
		}
	}
}

// P7.1: also where a number has no room in its bytes.
func TestWriteRefuses(t *testing.T) {
	l := bads()
	l["session 1 and more"] = with(func(t *api.Tree) { t.Sessions[0] = 1<<32 + 1 })
	l["session -1"] = with(func(t *api.Tree) { t.Sessions[0] = -1 })
	l["the greatest session number"] = with(func(t *api.Tree) { t.Sessions[2] = math.MaxInt })
	l["a path of 256 bytes and more"] = with(func(t *api.Tree) { t.Nodes[3].Path += strings.Repeat("z", 256) })
	l["a very long path"] = with(func(t *api.Tree) { t.Nodes[3].Path = strings.Repeat("/z", 1<<19) })
	l["data of 65536 bytes and more"] = with(func(t *api.Tree) { t.Nodes[3].Data += strings.Repeat("z", 1<<16) })
	for what, a := range l {
		if s, e := Write(a); s != "" || e != api.ErrRange {
			t.Errorf("%s: %.60x, %d", what, s, e)
		}
	}
}

// P7.2
func TestRead(t *testing.T) {
	for what, a := range goods() {
		if got, e := Read(sealed(packed(a))); !alike(got, a) || e != api.OK {
			t.Errorf("%s: %.200v, %d", what, got, e)
		}
	}
}

// P7.2: fewer than five bytes are no tree, whatever they are; five may be told from others by their sum.
func TestReadShort(t *testing.T) {
	refused(t, "nothing", "", api.ErrForm)
	for b := range 256 {
		for n := range 4 {
			refused(t, "short", string([]byte{byte(b), 0, 255, 'S'}[:n+1]), api.ErrForm)
		}
		refused(t, "S and little", "S"+string([]byte{byte(b)})+"\xff\x00", api.ErrForm)
	}
	refused(t, "four bytes and their sum", sealed(""), api.ErrForm)
	refused(t, "S and its sum", sealed("S"), api.ErrForm)
	refused(t, "S and another sum", "S\x00\x00\x00\x00", api.ErrSum)
	refused(t, "S and a sum of more", sealed("S")+"\x00", api.ErrSum)
}

// P7.2: what does not begin with S, with the sum that it should have, and with another.
func TestReadMark(t *testing.T) {
	rest := packed(base())[1:]
	for b := range 256 {
		if b == 'S' {
			continue
		}
		s := sealed(string([]byte{byte(b)}) + rest)
		refused(t, "another first byte", s, api.ErrForm)
		refused(t, "another first byte and sum", s[:len(s)-1]+"?", api.ErrForm)
	}
	refused(t, "without a first byte", sealed(rest), api.ErrForm)
}

// P7.2: each bit of the tree and of the sum is held to the other.
func TestReadSum(t *testing.T) {
	s := sealed(packed(base()))
	for i := range len(s) - 1 {
		for bit := range 8 {
			b := []byte(s)
			b[i+1] ^= 1 << bit
			refused(t, fmt.Sprintf("bit %d of byte %d", bit, i+1), string(b), api.ErrSum)
		}
	}
	for n := 5; n < len(s); n++ {
		refused(t, fmt.Sprintf("the first %d bytes", n), s[:n], api.ErrSum)
	}
	for _, more := range []string{"\x00", "S", odds, s} {
		refused(t, "bytes behind the sum", s+more, api.ErrSum)
	}
	ahead := s[:len(s)-4]
	refused(t, "a sum that turns its bytes", ahead+reversed(s[len(s)-4:]), api.ErrSum)
	refused(t, "a sum without the mark", ahead+sealed(ahead[1:])[len(ahead)-1:], api.ErrSum)
}

func reversed(s string) string {
	b := []byte(s)
	slices.Reverse(b)
	return string(b)
}

// P7.2: too few bytes, or more, of which the sum is right.
func TestReadForm(t *testing.T) {
	for _, a := range []api.Tree{tree.New(), base(), deep()} {
		s := packed(a)
		for n := 1; n < len(s); n++ {
			refused(t, fmt.Sprintf("the first %d of %d bytes", n, len(s)), sealed(s[:n]), api.ErrForm)
		}
		for _, more := range []string{"\x00", "S", "\x01/\x00\x00", odds, s, sealed(s), strings.Repeat("\x00", 59)} {
			refused(t, "more", sealed(s+more), api.ErrForm)
		}
	}
}

// counted is the base tree's bytes with other counts of sessions and of nodes.
func counted(sessions, nodes uint32) string {
	b := []byte(packed(base()))
	binary.BigEndian.PutUint32(b[9:], sessions)
	binary.BigEndian.PutUint32(b[13+4*3:], nodes)
	return sealed(string(b))
}

// P7.2: counts that are not those of the bytes behind them, also such as no memory would have room for.
func TestReadCounts(t *testing.T) {
	if a, e := Read(counted(3, 4)); !alike(a, base()) || e != api.OK {
		t.Fatalf("the counts that it has: %v, %d", a, e)
	}
	for _, n := range []uint32{0, 1, 2, 3, 5, 6, 400, 401, 1 << 16, 1 << 24, 1<<31 - 1, 1 << 31, 1<<32 - 1} {
		refused(t, fmt.Sprintf("%d nodes", n), counted(3, n), api.ErrForm)
	}
	for _, n := range []uint32{0, 1, 2, 4, 5, 100, 1 << 16, 1 << 24, 1<<31 - 1, 1 << 31, 1<<32 - 1} {
		refused(t, fmt.Sprintf("%d sessions", n), counted(n, 4), api.ErrForm)
	}
}

// rootOf is a new tree's bytes with a path and data of whatever told lengths.
func rootOf(pathLength byte, path string, dataLength uint16, data string) string {
	b := append([]byte(packed(tree.New())[:17]), pathLength)
	b = binary.BigEndian.AppendUint16(append(b, path...), dataLength)
	return sealed(string(append(b, data...)) + strings.Repeat("\x00", 56))
}

// P7.2: lengths that are not those of the texts behind them.
func TestReadLengths(t *testing.T) {
	if a, e := Read(rootOf(1, "/", 2, "xy")); e != api.OK || a.Nodes[0] != (api.Node{Path: "/", Data: "xy"}) {
		t.Fatalf("the lengths that it has: %v, %d", a, e)
	}
	for _, n := range []byte{0, 2, 3, 57, 58, 59, 60, 61, 62, 200, 255} {
		refused(t, fmt.Sprintf("a path of %d bytes", n), rootOf(n, "/", 2, "xy"), api.ErrForm)
	}
	for _, n := range []uint16{0, 1, 3, 4, 57, 58, 59, 256, 257, 512, 1<<15 - 1, 1 << 15, 1<<16 - 1} {
		refused(t, fmt.Sprintf("data of %d bytes", n), rootOf(1, "/", n, "xy"), api.ErrForm)
	}
}

// P7.2: whole bytes of a tree that is not good.
func TestReadRange(t *testing.T) {
	for what, a := range bads() {
		refused(t, what, sealed(packed(a)), api.ErrRange)
	}
	refused(t, "a path of 255 bytes", rootOf(255, "/"+strings.Repeat("a", 254), 0, ""), api.ErrRange)
	refused(t, "very many nodes", sealed(packed(full(5000, 0))), api.ErrRange)
}

// P7.2: of several errors the first one is told.
func TestReadOrder(t *testing.T) {
	for what, a := range bads() {
		s := packed(a)
		refused(t, what+", and more bytes", sealed(s+"\x00"), api.ErrForm)
		refused(t, what+", and a byte less", sealed(s[:len(s)-1]), api.ErrForm)
		refused(t, what+", and another sum", s+"\x00\x00\x00\x00", api.ErrSum)
		refused(t, what+", and another first byte", sealed("s"+s[1:]), api.ErrForm)
	}
}

// chance is a transaction that often fits a tree.
func chance(r *rand.Rand, t api.Tree) api.Txn {
	x := api.Txn{Zxid: t.Zxid + 1 + r.Intn(1<<20), Op: 1 + r.Intn(5), Session: 1 + r.Intn(4)}
	n := t.Nodes[r.Intn(len(t.Nodes))]
	switch x.Op {
	case api.OpClose:
		if r.Intn(3) > 0 {
			x.Op = api.OpOpen
		}
	case api.OpCreate:
		x.Path = strings.TrimSuffix(n.Path, "/") + "/" + []string{"a", "b", "c-", "_"}[r.Intn(4)]
		x.Data = strings.Repeat(odds, r.Intn(65))
		x.Owner = x.Session * r.Intn(2)
	case api.OpDelete:
		x.Path = n.Path
	case api.OpSet:
		x.Path, x.Data, x.Version = n.Path, strings.Repeat("\x7f\x80", r.Intn(129)), n.Stat.Version+1
	}
	return x
}

// P7.1, P7.2: trees that transactions made come back as they were.
func TestWays(t *testing.T) {
	for seed := range 20 {
		r := rand.New(rand.NewSource(int64(seed)))
		a, greatest := tree.New(), 1
		for range 300 {
			b, _, e := tree.Apply(a, chance(r, a))
			if e != api.OK {
				continue
			}
			a, greatest = b, max(greatest, len(b.Nodes))
			s, e := Write(a)
			if e != api.OK || s != sealed(packed(a)) {
				t.Fatalf("Write of %v: %x, %d", a, s, e)
			}
			if got, e := Read(s); e != api.OK || !alike(got, a) {
				t.Fatalf("Read of %v: %v, %d", a, got, e)
			}
		}
		if greatest < 5 {
			t.Errorf("seed %d: a way that leads nowhere: %d nodes", seed, greatest)
		}
	}
}

// P7.1: what is handed in is not changed, its spare room neither.
func TestWriteApart(t *testing.T) {
	room := base()
	room.Nodes = append(room.Nodes, api.Node{Path: "/zz", Data: "spare"}, api.Node{Path: "room"})
	room.Sessions = append(room.Sessions, 77, 78)
	asItWas := api.Tree{Zxid: room.Zxid, Nodes: slices.Clone(room.Nodes), Sessions: slices.Clone(room.Sessions)}
	a := api.Tree{Zxid: room.Zxid, Nodes: room.Nodes[:4], Sessions: room.Sessions[:3]}
	for range 2 {
		if s, e := Write(a); s != sealed(packed(base())) || e != api.OK {
			t.Errorf("Write: %x, %d", s, e)
		}
		if !reflect.DeepEqual(room, asItWas) {
			t.Errorf("what was handed in is changed: %v", room)
		}
	}
}

// within is whether a text lies in the memory of another one.
func within(piece, s string) bool {
	if piece == "" {
		return false
	}
	at, from := uintptr(unsafe.Pointer(unsafe.StringData(piece))), uintptr(unsafe.Pointer(unsafe.StringData(s)))
	return from <= at && at < from+uintptr(len(s))
}

// P7.2: what comes out is the caller's, and shares no memory with what was handed in.
func TestReadApart(t *testing.T) {
	s := sealed(packed(base()))
	for range 2 {
		a, e := Read(s)
		if !alike(a, base()) || e != api.OK {
			t.Fatalf("Read: %v, %d", a, e)
		}
		for _, n := range a.Nodes {
			if within(n.Path, s) || within(n.Data, s) {
				t.Errorf("node %s shares its texts", n.Path)
			}
		}
		for i := range a.Nodes[:cap(a.Nodes)] {
			a.Nodes[:cap(a.Nodes)][i] = api.Node{Path: "changed"}
		}
		for i := range a.Sessions[:cap(a.Sessions)] {
			a.Sessions[:cap(a.Sessions)][i] = -1
		}
	}
}

// taker takes pieces off a text's beginning by another hand than the program's: it panics where there are too few bytes.
type taker []byte

func (b *taker) take(n int) []byte {
	piece := (*b)[:n:len(*b)]
	*b = (*b)[n:]
	return piece
}

func (b *taker) number(n int) int {
	return int(binary.BigEndian.Uint64(append(make([]byte, 8-n), b.take(n)...)))
}

// readByWords is Read as its chapter says it, by another hand.
func readByWords(s string) (a api.Tree, e api.Errno) {
	if len(s) < 5 || s[0] != 'S' {
		return api.Tree{}, api.ErrForm
	}
	if sealed(s[:len(s)-4]) != s {
		return api.Tree{}, api.ErrSum
	}
	defer func() {
		if recover() != nil {
			a, e = api.Tree{}, api.ErrForm
		}
	}()
	b := taker(s[1 : len(s)-4])
	a.Zxid = b.number(8)
	for range b.number(4) {
		a.Sessions = append(a.Sessions, b.number(4))
	}
	for range b.number(4) {
		n := api.Node{Path: string(b.take(b.number(1)))}
		n.Data = string(b.take(b.number(2)))
		n.Stat = api.Stat{Czxid: b.number(8), Mzxid: b.number(8), Pzxid: b.number(8), Version: b.number(8), Cversion: b.number(8), Owner: b.number(8), Kids: b.number(8)}
		a.Nodes = append(a.Nodes, n)
	}
	if len(b) > 0 {
		return api.Tree{}, api.ErrForm
	}
	if !tree.Good(a) {
		return api.Tree{}, api.ErrRange
	}
	return a, api.OK
}

// heldToWords holds Read to the chapter's words, and Write to what Read took.
func heldToWords(t *testing.T, s string) api.Errno {
	t.Helper()
	want, code := readByWords(s)
	a, e := Read(s)
	if e != code || !alike(a, want) {
		t.Fatalf("Read(%x): %v, %d; asked for %v, %d", s, a, e, want, code)
	}
	if e != api.OK {
		return e
	}
	if again, e := Write(a); again != s || e != api.OK {
		t.Fatalf("Write of what Read told of %x: %x, %d", s, again, e)
	}
	return e
}

// P7.1, P7.2: bytes that were damaged by chance, with the sum that they should have then.
func TestReadByWords(t *testing.T) {
	r := rand.New(rand.NewSource(7))
	told := map[api.Errno]int{}
	for range 20000 {
		b := []byte(packed([]api.Tree{tree.New(), base()}[r.Intn(2)]))
		for range 1 + r.Intn(3) {
			switch at := 1 + r.Intn(len(b)-1); r.Intn(4) {
			case 0:
				b[at] = byte(r.Intn(256))
			case 1:
				b[at] ^= 1 << r.Intn(8)
			case 2:
				b = slices.Insert(b, at, byte(r.Intn(256)))
			case 3:
				b = slices.Delete(b, at, at+1)
			}
		}
		told[heldToWords(t, sealed(string(b)))]++
	}
	if told[api.OK] < 100 || told[api.ErrForm] < 100 || told[api.ErrRange] < 100 {
		t.Errorf("too little of a kind: %v", told)
	}
}

// P7.1, P7.2: whatever bytes come in, as they are and with a mark and a sum.
func FuzzRead(f *testing.F) {
	for _, a := range []api.Tree{tree.New(), base(), deep()} {
		f.Add(sealed(packed(a)))
		f.Add(packed(a)[1:])
	}
	f.Add("")
	f.Add("S")
	f.Fuzz(func(t *testing.T, s string) {
		heldToWords(t, s)
		heldToWords(t, sealed("S"+s))
	})
}
