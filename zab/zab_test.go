package zab

import (
	"fmt"
	"math"
	"math/rand"
	"reflect"
	"slices"
	"testing"

	"aviary/api"
)

const (
	most = 1<<31 - 1 // of an epoch, and of a count
	era  = 1 << 31   // an epoch's worth of numbers
	top  = 1<<62 - 1 // the greatest zxid
)

// logOf is a log with these numbers.
func logOf(numbers ...int) []api.Txn {
	var l []api.Txn
	for _, z := range numbers {
		l = append(l, api.Txn{Zxid: z, Op: api.OpOpen, Session: 1})
	}
	return l
}

func peer(id, epoch int, numbers ...int) api.Peer {
	return api.Peer{Id: id, Epoch: epoch, Log: logOf(numbers...)}
}

// elected holds Elect to the place of the one that leads, and its epoch.
func elected(t *testing.T, what string, at, epoch int, l ...api.Peer) {
	t.Helper()
	if a, n, e := Elect(l); a != at || n != epoch || e != api.OK {
		t.Errorf("%s: %d, %d, %d, not %d, %d", what, a, n, e, at, epoch)
	}
}

// refused holds Elect to an error, and to noughts beside it.
func refused(t *testing.T, what string, want api.Errno, l ...api.Peer) {
	t.Helper()
	if a, n, e := Elect(l); a != 0 || n != 0 || e != want {
		t.Errorf("%s: %d, %d, %d, not %d", what, a, n, e, want)
	}
}

// Quorum is 2, which is more than half of all servers and no more than is needed.
func TestQuorum(t *testing.T) {
	if q := Quorum(); q != 2 || 2*q <= api.Servers || 2*(q-1) > api.Servers {
		t.Errorf("%d", q)
	}
}

// P11.1, P11.2: in a new world server 2 is chosen, its epoch is 1, and the first number is 1.1.
func TestNewWorld(t *testing.T) {
	elected(t, "three new ones", 2, 1, peer(0, 0), peer(1, 0), peer(2, 0))
	numbered(t, "the first one", era+1, peer(2, 1))
}

// P11.1: the greatest Last leads, whatever the Ids, the Epochs and the lengths are.
func TestElectLast(t *testing.T) {
	elected(t, "the first", 0, 1, peer(0, 0, 3), peer(1, 0, 2), peer(2, 0, 1))
	elected(t, "the middle", 1, 1, peer(2, 0, 1), peer(0, 0, 3), peer(1, 0, 2))
	elected(t, "the last", 2, 1, peer(1, 0, 1), peer(2, 0, 2), peer(0, 0, 3))
	elected(t, "of two", 0, 1, peer(0, 0, 1), peer(2, 0))
	elected(t, "a shorter log", 0, 1, peer(0, 0, 9), peer(1, 0, 1, 2, 3, 4, 5), peer(2, 0, 1, 8))
	elected(t, "an older epoch of its own", 0, 8, peer(0, 0, 2), peer(1, 7, 1))
	elected(t, "a later epoch in the log", 1, 3, peer(0, 0, 1, 2, most), peer(1, 0, 2*era), peer(2, 0))
	elected(t, "the last one of each, not the greatest", 1, 1, peer(0, 0, 9, 1), peer(1, 0, 2))
	elected(t, "what is done does not matter", 1, 1, api.Peer{Id: 0, Log: logOf(1), Done: 1}, peer(1, 0, 2))
}

// P11.1: of several with the same Last the greatest Id leads; the answer is its place, not its Id.
func TestElectId(t *testing.T) {
	for _, c := range []struct{ a, b, c, at int }{{0, 1, 2, 2}, {0, 2, 1, 1}, {1, 0, 2, 2}, {1, 2, 0, 1}, {2, 0, 1, 0}, {2, 1, 0, 0}} {
		elected(t, fmt.Sprint(c), c.at, 1, peer(c.a, 0, 5), peer(c.b, 0, 5), peer(c.c, 0, 5))
		elected(t, fmt.Sprint(c, " by other ways"), c.at, 4, peer(c.a, 1, 5), peer(c.b, 3, 1, 5), peer(c.c, 2, 2, 3, 5))
	}
	elected(t, "two", 0, 1, peer(1, 0), peer(0, 0))
	elected(t, "two the other way", 1, 1, peer(0, 0), peer(1, 0))
	elected(t, "two of three", 1, 1, peer(2, 0, 4), peer(1, 0, 5), peer(0, 0, 5))
	elected(t, "an empty log is as one that ends with 0", 0, 1, peer(2, 0), peer(1, 0, 0), peer(0, 0, 7, 0))
	elected(t, "and the other way", 0, 1, peer(2, 0, 0), peer(1, 0))
}

// P11.1: the epoch is behind the greatest of all Epochs and of the epochs of all Lasts, whoever has it.
func TestElectEpoch(t *testing.T) {
	elected(t, "the leader's", 0, 6, peer(2, 5), peer(1, 3), peer(0, 4))
	elected(t, "the second one's", 0, 6, peer(2, 3), peer(1, 5), peer(0, 4))
	elected(t, "the third one's", 0, 6, peer(2, 3), peer(1, 4), peer(0, 5))
	elected(t, "of the leader's log", 0, 6, peer(2, 1, 5*era+9), peer(1, 4, 4*era), peer(0, 0))
	elected(t, "of the log and of an Epoch", 0, 6, peer(2, 1, 5*era), peer(1, 5), peer(0, 0))
	elected(t, "an Epoch above the log's", 0, 9, peer(2, 1, 5*era+9), peer(1, 8), peer(0, 0))
	elected(t, "of the last one alone", 1, 3, peer(0, 1, 9*era, 2), peer(1, 2, 3))
	elected(t, "a count that is full", 0, 2, peer(0, 0, 2*era-1), peer(1, 0))
	elected(t, "the last that may be", 0, most, peer(1, most-1), peer(0, 0))
	elected(t, "the last that may be, by a log", 0, most, peer(1, 0, (most-1)*era+most), peer(0, 0))
}

// P11.1: numbers that are no zxids are held against others as numbers, and their epoch is 0.
func TestElectOdd(t *testing.T) {
	elected(t, "beyond", 0, 1, peer(0, 0, top+1), peer(1, 0, 5))
	elected(t, "far beyond", 0, 4, peer(0, 0, math.MaxInt), peer(1, 0, 3*era))
	elected(t, "below", 0, 1, peer(0, 0), peer(1, 0, -1))
	elected(t, "far below", 0, 3, peer(0, 2, -1), peer(1, 0, math.MinInt))
	elected(t, "all below", 1, 1, peer(0, 0, math.MinInt), peer(1, 0, -1), peer(2, 0, -2))
	elected(t, "alike", 1, 1, peer(0, 0, math.MinInt), peer(2, 0, math.MinInt), peer(1, 0, math.MinInt))
	elected(t, "what is done does not matter", 1, 1, api.Peer{Done: -7}, api.Peer{Id: 1, Done: math.MaxInt})
}

// P11.1: one ahead has its Id, wherever the two stand, whatever else they have.
func TestElectTwice(t *testing.T) {
	for id := range api.Servers {
		refused(t, "two", api.ErrTwice, peer(id, 0), peer(id, 1, 5))
		other := (id + 1) % api.Servers
		refused(t, "the first and the last", api.ErrTwice, peer(id, 0, 1), peer(other, 0), peer(id, 0))
		refused(t, "the last two", api.ErrTwice, peer(other, 0), peer(id, 0), peer(id, 0))
		refused(t, "four", api.ErrTwice, peer(0, 0), peer(1, 0), peer(2, 0), peer(id, 0))
	}
}

// P11.1: an Id or an Epoch out of its bounds, wherever it stands; the bounds are within.
func TestElectRange(t *testing.T) {
	for _, id := range []int{-1, 3, 4, 1 << 32, math.MinInt, math.MaxInt} {
		refused(t, fmt.Sprint("Id ", id, ", alone"), api.ErrRange, peer(id, 0))
		refused(t, fmt.Sprint("Id ", id, ", first"), api.ErrRange, peer(id, 0), peer(1, 0), peer(2, 0))
		refused(t, fmt.Sprint("Id ", id, ", last"), api.ErrRange, peer(0, 0), peer(1, 0), peer(id, 0))
		refused(t, fmt.Sprint("Id ", id, ", fourth"), api.ErrRange, peer(0, 0), peer(1, 0), peer(2, 0), peer(id, 0))
	}
	for _, epoch := range []int{-1, most + 1, 1 << 32, math.MinInt, math.MaxInt} {
		refused(t, fmt.Sprint("Epoch ", epoch, ", alone"), api.ErrRange, peer(0, epoch))
		refused(t, fmt.Sprint("Epoch ", epoch, ", first"), api.ErrRange, peer(0, epoch), peer(1, 0), peer(2, 0))
		refused(t, fmt.Sprint("Epoch ", epoch, ", last"), api.ErrRange, peer(0, 0), peer(1, 0), peer(2, epoch))
	}
}

// P11.1: fewer than Quorum, which a second one mends.
func TestElectDown(t *testing.T) {
	refused(t, "none", api.ErrDown)
	for id := range api.Servers {
		refused(t, "one", api.ErrDown, peer(id, 0))
		refused(t, "one that knows much", api.ErrDown, peer(id, most-1, 1, 2, 3))
		elected(t, "two", 0, 2, peer(id, 1, 1), peer((id+1)%api.Servers, 0))
	}
}

// P11.1: no epoch is behind the last one, whoever has it.
func TestElectFull(t *testing.T) {
	refused(t, "the leader", api.ErrFull, peer(0, most, 1), peer(1, 0))
	refused(t, "another", api.ErrFull, peer(0, 0, 1), peer(1, most))
	refused(t, "all", api.ErrFull, peer(0, most), peer(1, most), peer(2, most))
	refused(t, "by a log", api.ErrFull, peer(0, 0, most*era), peer(1, 0), peer(2, 0))
	refused(t, "by the greatest zxid", api.ErrFull, peer(0, 0), peer(1, 0, top))
}

// P11.1: errors come peer by peer, of one peer ErrTwice first, and behind those of all peers ErrDown, then ErrFull.
func TestElectOrder(t *testing.T) {
	refused(t, "of one: twice, and the Epoch", api.ErrTwice, peer(1, 0), peer(1, -1))
	refused(t, "of two: the Id, then twice", api.ErrRange, peer(3, 0), peer(3, 0))
	refused(t, "of two: the Epoch, then twice", api.ErrRange, peer(1, most+1), peer(1, most+1))
	refused(t, "twice, then the Id", api.ErrTwice, peer(1, 0), peer(1, 0), peer(3, 0))
	refused(t, "the Id, then twice", api.ErrRange, peer(1, 0), peer(3, 0), peer(1, 0))
	refused(t, "the Epoch, then twice", api.ErrRange, peer(1, 0), peer(0, -1), peer(1, 0))
	refused(t, "the Id, and too few", api.ErrRange, peer(-1, 0))
	refused(t, "the Epoch, and too few", api.ErrRange, peer(1, most+1))
	refused(t, "too few, and full", api.ErrDown, peer(1, most))
	refused(t, "twice, and full", api.ErrTwice, peer(1, most), peer(1, most))
	refused(t, "the Id, and full", api.ErrRange, peer(1, most), peer(3, most))
}

// P11.1: a long list ends at once, as it has no more good Ids than there are servers.
func TestElectMany(t *testing.T) {
	l := make([]api.Peer, 1<<20)
	refused(t, "all alike", api.ErrTwice, l...)
	for i := range l {
		l[i].Id = i
	}
	refused(t, "all others", api.ErrRange, l...)
}

// numbered holds Next to a number.
func numbered(t *testing.T, what string, want int, p api.Peer) {
	t.Helper()
	if n, e := Next(p); n != want || e != api.OK {
		t.Errorf("%s: %d, %d, not %d", what, n, e, want)
	}
}

// unnumbered holds Next to an error, and to 0 beside it.
func unnumbered(t *testing.T, what string, want api.Errno, p api.Peer) {
	t.Helper()
	if n, e := Next(p); n != 0 || e != want {
		t.Errorf("%s: %d, %d, not %d", what, n, e, want)
	}
}

// P11.2: behind a last number of an older epoch comes the first number of its Epoch.
func TestNextBegins(t *testing.T) {
	numbered(t, "without a log", 5*era+1, peer(0, 5))
	numbered(t, "behind epoch 0", era+1, peer(1, 1, 1, 2, 3))
	numbered(t, "just behind", 5*era+1, peer(2, 5, 5*era-1))
	numbered(t, "far behind", most*era+1, peer(0, most, 7))
	numbered(t, "behind a count that is full", 2*era+1, peer(0, 2, era+most))
	numbered(t, "of the last one alone", 3*era+1, peer(0, 3, 9*era, 2*era+4))
}

// P11.2: behind a last number of its Epoch, or of a later one, comes the next one.
func TestNextGoesOn(t *testing.T) {
	numbered(t, "without anything", 1, peer(0, 0))
	numbered(t, "epoch 0", 8, peer(0, 0, 7))
	numbered(t, "the first number", 5*era+1, peer(0, 5, 5*era))
	numbered(t, "in the midst", 5*era+10, peer(1, 5, 1, 5*era+9))
	numbered(t, "the last that may be", 5*era+most, peer(2, 5, 5*era+most-1))
	numbered(t, "the last of all", top, peer(2, most, top-1))
	numbered(t, "of a later epoch", 6*era+4, peer(2, 5, 6*era+3))
	numbered(t, "of the last one alone", 4*era+2, peer(2, 4, 9, 7*era+3, 4*era+1))
	numbered(t, "whoever it is, whatever is done", 10, api.Peer{Id: -5, Log: logOf(9), Done: -8})
}

// P11.2: an Epoch that is none: below 0 the log tells, beyond MaxEpoch Make refuses it.
func TestNextEpoch(t *testing.T) {
	numbered(t, "below", 8, peer(0, -1, 7))
	numbered(t, "far below", 1, peer(0, math.MinInt))
	for _, epoch := range []int{most + 1, 1 << 32, math.MaxInt} {
		unnumbered(t, fmt.Sprint(epoch), api.ErrRange, peer(0, epoch))
		unnumbered(t, fmt.Sprint(epoch, " behind a log"), api.ErrRange, peer(0, epoch, 1, top))
	}
}

// P11.2: a count that is full, of its Epoch or of a later one.
func TestNextFull(t *testing.T) {
	unnumbered(t, "epoch 0", api.ErrFull, peer(0, 0, most))
	unnumbered(t, "its own", api.ErrFull, peer(0, 5, 5*era+most))
	unnumbered(t, "a later one", api.ErrFull, peer(0, 5, 6*era+most))
	unnumbered(t, "the last of all", api.ErrFull, peer(0, most, top))
	unnumbered(t, "below", api.ErrFull, peer(0, -1, most))
}

// P11.2: the epoch of a number that is no zxid is 0: above that the Epoch begins, else there is no next one.
func TestNextOdd(t *testing.T) {
	for _, z := range []int{-1, top + 1, math.MinInt, math.MaxInt} {
		unnumbered(t, fmt.Sprint(z), api.ErrRange, peer(0, 0, z))
		unnumbered(t, fmt.Sprint(z, ", Epoch below"), api.ErrRange, peer(0, -1, 4, z))
		numbered(t, fmt.Sprint(z, ", Epoch above"), era+1, peer(0, 1, z))
		unnumbered(t, fmt.Sprint(z, ", Epoch beyond"), api.ErrRange, peer(0, most+1, z))
	}
}

// agreed holds Committed to a number.
func agreed(t *testing.T, what string, want int, l ...[]api.Txn) {
	t.Helper()
	if n := Committed(l); n != want {
		t.Errorf("%s: %d, not %d", what, n, want)
	}
}

// P11.3: what stands in two logs of three, or of two, the first one being one of them.
func TestCommitted(t *testing.T) {
	agreed(t, "all", 3, logOf(1, 2, 3), logOf(1, 2, 3), logOf(1, 2, 3))
	agreed(t, "the second one", 3, logOf(1, 2, 3), logOf(1, 2, 3), nil)
	agreed(t, "the third one", 3, logOf(1, 2, 3), nil, logOf(1, 2, 3))
	agreed(t, "of two", 2, logOf(1, 2, 3), logOf(1, 2))
	agreed(t, "now one, now the other", 3, logOf(1, 2, 3), logOf(1, 9, 3), logOf(8, 2, 3))
	agreed(t, "one goes on where the other ends", 3, logOf(1, 2, 3), logOf(1, 2), logOf(1, 9, 3))
	agreed(t, "others are longer", 2, logOf(1, 2), logOf(1, 2, 3), logOf(1, 2, 3))
	agreed(t, "without order", 3, logOf(3, 3, -1), logOf(3, 3, -1))
}

// P11.3: it ends at the first one that too few have, whatever stands behind that.
func TestCommittedEnds(t *testing.T) {
	agreed(t, "at the first one", 0, logOf(1, 2, 3), logOf(9, 2, 3), logOf(8, 2, 3))
	agreed(t, "in the midst", 1, logOf(1, 2, 3), logOf(1, 8, 3), logOf(1, 9, 3))
	agreed(t, "at the last one", 2, logOf(1, 2, 3), logOf(1, 2, 4), logOf(1, 2))
	agreed(t, "others agree without the first one", 1, logOf(1, 2), logOf(1, 3, 4), logOf(1, 3, 4))
	agreed(t, "at another place", 1, logOf(1, 2, 3), logOf(1, 3, 2), logOf(1))
	agreed(t, "a place too early", 0, logOf(1, 2, 3), logOf(2, 3), logOf(0, 1, 2, 3))
}

// P11.3: nothing without logs, without anything in the first one, or with one log alone.
func TestCommittedNothing(t *testing.T) {
	agreed(t, "no logs", 0)
	agreed(t, "an empty list", 0, [][]api.Txn{}...)
	agreed(t, "one log alone", 0, logOf(1, 2, 3))
	agreed(t, "one empty log", 0, nil)
	agreed(t, "empty logs", 0, nil, []api.Txn{}, nil)
	agreed(t, "the first one is empty", 0, nil, logOf(1, 2), logOf(1, 2))
	agreed(t, "the others are empty", 0, logOf(1, 2), nil, []api.Txn{})
}

// P11.3: Quorum is 2, of however many logs.
func TestCommittedMore(t *testing.T) {
	agreed(t, "the last of many", 2, logOf(1, 2, 3), nil, nil, logOf(9), logOf(7, 8, 9), logOf(1, 2))
	agreed(t, "turn by turn", 4, logOf(1, 2, 3, 4), logOf(1), logOf(0, 2), logOf(0, 0, 3), logOf(0, 0, 0, 4))
	agreed(t, "none of many", 0, logOf(1, 2, 3), logOf(2), logOf(2), logOf(2), logOf(2))
}

// P11.3: those are alike that have all fields alike.
func TestCommittedAlike(t *testing.T) {
	x := api.Txn{Zxid: 1, Op: 2, Session: 3, Path: "/a", Data: "b", Version: 4, Owner: 5}
	agreed(t, "alike", 1, []api.Txn{x}, []api.Txn{x})
	v := reflect.ValueOf(x)
	for i := range v.NumField() {
		y := x
		switch f := reflect.ValueOf(&y).Elem().Field(i); f.Kind() {
		case reflect.String:
			f.SetString(f.String() + "\x00")
		default:
			f.SetInt(f.Int() + 1<<32)
		}
		agreed(t, v.Type().Field(i).Name, 0, []api.Txn{x}, []api.Txn{y})
	}
}

// P11.3: long logs among many empty ones end soon.
func TestCommittedMany(t *testing.T) {
	long := make([]api.Txn, 200_000)
	for i := range long {
		long[i].Zxid = i
	}
	l := make([][]api.Txn, 200_000)
	l[0], l[len(l)-1] = long, slices.Clone(long)
	agreed(t, "long and many", len(long), l...)
}

// electByWords is Elect by another hand: errors by a set of Ids, the leader by a sorted copy.
func electByWords(l []api.Peer) (int, int, api.Errno) {
	type standing struct{ last, id, at int }
	seen := map[int]bool{}
	var all []standing
	epoch := 0
	for i, p := range l {
		if seen[p.Id] {
			return 0, 0, api.ErrTwice
		}
		seen[p.Id] = true
		if p.Id != 0 && p.Id != 1 && p.Id != 2 || p.Epoch < 0 || p.Epoch >= era {
			return 0, 0, api.ErrRange
		}
		s := standing{0, p.Id, i}
		if len(p.Log) > 0 {
			s.last = p.Log[len(p.Log)-1].Zxid
		}
		all = append(all, s)
		epoch = max(epoch, p.Epoch+1)
		if s.last >= 0 && s.last <= top {
			epoch = max(epoch, s.last/era+1)
		}
	}
	slices.SortFunc(all, func(a, b standing) int {
		if a.last > b.last || a.last == b.last && a.id > b.id {
			return -1
		}
		return 1
	})
	switch {
	case len(all) < 2:
		return 0, 0, api.ErrDown
	case epoch == era:
		return 0, 0, api.ErrFull
	}
	return all[0].at, epoch, api.OK
}

// nextByWords is Next by another hand: by division, case by case.
func nextByWords(p api.Peer) (int, api.Errno) {
	last := 0
	for _, x := range p.Log {
		last = x.Zxid
	}
	good := last >= 0 && last <= top
	switch {
	case p.Epoch > 0 && (!good || last/era < p.Epoch):
		if p.Epoch >= era {
			return 0, api.ErrRange
		}
		return p.Epoch*era + 1, api.OK
	case !good:
		return 0, api.ErrRange
	case last%era == era-1:
		return 0, api.ErrFull
	}
	return last + 1, api.OK
}

// P11.1, P11.2: peers of all sorts, against their words.
func TestPeersByWords(t *testing.T) {
	r := rand.New(rand.NewSource(11))
	pick := func(l ...int) int { return l[r.Intn(len(l))] }
	seen := map[api.Errno]int{}
	for range 200_000 {
		ids := r.Perm(api.Servers)
		l := make([]api.Peer, r.Intn(5))
		for i := range l {
			l[i] = peer(ids[i%len(ids)], pick(0, 0, 1, 1, 2, 3, 5, most-1))
			for range r.Intn(4) {
				l[i].Log = append(l[i].Log, logOf(pick(0, 1, 2, 3, most, era, era+1, 2*era+7, 3*era+most, (most-1)*era))...)
			}
			switch r.Intn(20) {
			case 0:
				l[i].Id = pick(-1, 0, 1, 2, 3, math.MaxInt)
			case 1:
				l[i].Epoch = pick(-1, most, most+1, math.MinInt)
			case 2:
				l[i].Log = append(l[i].Log, logOf(pick(-1, top, top+1, math.MinInt, math.MaxInt))...)
			}
			n, e := Next(l[i])
			if wantN, wantE := nextByWords(l[i]); n != wantN || e != wantE {
				t.Fatalf("Next of %v: %d, %d, not %d, %d", l[i], n, e, wantN, wantE)
			}
		}
		at, epoch, e := Elect(l)
		if wantAt, wantEpoch, wantE := electByWords(l); at != wantAt || epoch != wantEpoch || e != wantE {
			t.Fatalf("Elect of %v: %d, %d, %d, not %d, %d, %d", l, at, epoch, e, wantAt, wantEpoch, wantE)
		}
		seen[e]++
	}
	for _, e := range []api.Errno{api.OK, api.ErrTwice, api.ErrRange, api.ErrDown, api.ErrFull} {
		if seen[e] < 100 {
			t.Errorf("%d came %d times alone", e, seen[e])
		}
	}
}

// committedByWords is Committed by another hand: place by place, as many as are held.
func committedByWords(l [][]api.Txn) int {
	if len(l) == 0 {
		return 0
	}
	for place, x := range l[0] {
		others := 0
		for _, log := range l[1:] {
			if place < len(log) && log[place] == x {
				others++
			}
		}
		if others == 0 {
			return place
		}
	}
	return len(l[0])
}

// P11.3: logs of all sorts, against its words.
func TestLogsByWords(t *testing.T) {
	r := rand.New(rand.NewSource(113))
	for range 100_000 {
		l := make([][]api.Txn, r.Intn(5))
		for i := range l {
			for n := range r.Intn(7) {
				x := api.Txn{Zxid: n + 1}
				if r.Intn(4) == 0 {
					x.Data = "another"
				}
				l[i] = append(l[i], x)
			}
		}
		agreed(t, fmt.Sprint(l), committedByWords(l), l...)
	}
}

// P11.1, P11.2, P11.3: what comes in is not changed, its spare room neither, and is answered of as before.
func TestApart(t *testing.T) {
	logs := func() [][]api.Txn {
		return [][]api.Txn{logOf(1, 2, 3, 4)[:2], logOf(1, 2, 5, 6)[:3], logOf(1, 7)[:1], logOf(9)}[:3]
	}
	peers := func() []api.Peer {
		var l []api.Peer
		for i, log := range logs() {
			l = append(l, api.Peer{Id: i, Epoch: i, Log: log, Done: 1})
		}
		return append(l, peer(9, 9, 9))[:3]
	}
	l, p := logs(), peers()
	for range 2 {
		agreed(t, "logs", 2, l...)
		elected(t, "peers", 1, 3, p...)
		numbered(t, "a peer", 2*era+1, p[2])
	}
	for i, log := range logs()[:4] {
		if got := l[:4][i]; len(got) != len(log) || !slices.Equal(got[:cap(got)], log[:cap(log)]) {
			t.Errorf("log %d: %v, not %v", i, got[:cap(got)], log[:cap(log)])
		}
	}
	for i, was := range peers()[:4] {
		got := p[:4][i]
		if !reflect.DeepEqual(got, was) || !slices.Equal(got.Log[:cap(got.Log)], was.Log[:cap(was.Log)]) {
			t.Errorf("peer %d: %v, not %v", i, got, was)
		}
	}
}
