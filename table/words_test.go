package table

import (
	"math"
	"math/rand/v2"
	"slices"
	"testing"

	"adit/api"
)

// What P1601 to P1604 say, gone through in the plainest way.

// line is how a seat is moved in a frame.
type line struct {
	how           int
	comes, counts bool
}

// lines go through the frames from 0 on, one by one, as a seat's rows begin and end: what begins or ends in a frame tells in the next one.
func lines(l []api.Span, seat, most int) []line {
	var out []line
	var now api.Span
	how := api.Absent
	for frame := range most + 1 {
		x := line{how: how, counts: how == api.Player && (now.Until == 0 || frame <= now.Last)}
		for _, s := range l {
			if s.Seat == seat && s.From == frame {
				now, how, x.comes = s, api.Player, true
			}
		}
		if how == api.Player && now.Until == frame && frame > 0 {
			how = api.Robot
		}
		out = append(out, x)
	}
	return out
}

// addedBy is what Add must answer, by the chapter's words one behind the other.
func addedBy(l []api.Span, r api.Record) ([]api.Span, api.Errno) {
	if r.Kind != 2 && r.Kind != 3 {
		return nil, api.ErrKind
	}
	if r.Seat != 0 && r.Seat != 1 && r.Seat != 2 && r.Seat != 3 {
		return nil, api.ErrSeat
	}
	if r.Frame < 1 {
		return nil, api.ErrArg
	}
	there, at := false, 0
	for i, s := range l {
		if s.Seat == r.Seat {
			there, at = true, i
		}
	}
	out := append([]api.Span{}, l...)
	if r.Kind == 2 {
		if there && (l[at].Until == 0 || l[at].Until >= r.Frame) {
			return nil, api.ErrSeat
		}
		return append(out, api.Span{Seat: r.Seat, From: r.Frame, Until: 0, Last: 0}), api.OK
	}
	if r.Seat == 0 || !there || l[at].Until != 0 || l[at].From >= r.Frame {
		return nil, api.ErrSeat
	}
	if r.Last < l[at].From || r.Last > r.Frame {
		return nil, api.ErrArg
	}
	out[at] = api.Span{Seat: r.Seat, From: l[at].From, Until: r.Frame, Last: r.Last}
	return out, api.OK
}

// openBy is what Open must tell.
func openBy(l []api.Span, frame int) int {
	for _, seat := range []int{1, 2, 3} {
		is := true
		for _, s := range l {
			if s.Seat == seat {
				is = s.Until != 0 && s.Until <= frame
			}
		}
		if is {
			return seat
		}
	}
	return -1
}

// asked holds How, Counts and Open of all seats and frames up to most against the words.
func asked(t *testing.T, l []api.Span, most int) {
	t.Helper()
	for seat := -1; seat <= api.Seats; seat++ {
		for frame, want := range lines(l, seat, most) {
			how, comes := How(l, seat, frame)
			if got := (line{how, comes, Counts(l, seat, frame)}); got != want {
				t.Fatalf("P1602: %v, seat %d, frame %d: %+v, not %+v", l, seat, frame, got, want)
			}
		}
	}
	for frame := -2; frame <= most; frame++ {
		if got, want := Open(l, frame), openBy(l, frame); got != want {
			t.Fatalf("P1603: %v, frame %d: %d, not %d", l, frame, got, want)
		}
	}
}

// holds tells what Add answers, once it is what the words say.
func holds(t *testing.T, l []api.Span, r api.Record) ([]api.Span, api.Errno) {
	t.Helper()
	was := slices.Clone(l)
	got, e := Add(l, r)
	want, err := addedBy(l, r)
	if e != err || !slices.Equal(got, want) {
		t.Fatalf("P1601: Add(%v, %+v): %v, %v, not %v, %v", l, r, got, e, want, err)
	}
	if !slices.Equal(l, was) {
		t.Fatalf("P2: Add(%v, %+v): it was %v", l, r, was)
	}
	return got, e
}

// grown are a table and all that records of a seat with frames up to most make of it.
func grown(l []api.Span, seat, most int) [][]api.Span {
	all := [][]api.Span{l}
	for frame := 1; frame <= most; frame++ {
		if next, e := addedBy(l, seated(seat, frame)); e == api.OK {
			all = append(all, grown(next, seat, most)...)
		}
		for last := range most + 1 {
			if next, e := addedBy(l, retired(seat, frame, last)); e == api.OK {
				all = append(all, grown(next, seat, most)...)
			}
		}
	}
	return all
}

// TestAllOfOneSeat: all tables of frames up to 6, all records, and all frames.
func TestAllOfOneSeat(t *testing.T) {
	for seat := range api.Seats {
		for _, begun := range [][]api.Span{nil, {{Seat: (seat + 1) % 4, From: 3}, {Seat: (seat + 2) % 4, From: 2, Until: 4, Last: 3}}, {{Seat: seat, From: 0, Until: 2, Last: 2}}} {
			for _, l := range grown(begun, seat, 6) {
				asked(t, l, 9)
				for frame := -1; frame <= 8; frame++ {
					for last := -1; last <= 8; last++ {
						holds(t, l, retired(seat, frame, last))
						holds(t, l, api.Record{Kind: api.RSeat, Input: last, Seat: seat, Frame: frame, Last: last})
					}
				}
			}
		}
	}
}

// chance is a record by chance: now and then such as may not be.
func chance(r *rand.Rand, l []api.Span, most int) api.Record {
	x := api.Record{Kind: 2 + r.IntN(2), Input: r.IntN(12), Seat: r.IntN(4), Frame: 1 + r.IntN(most)}
	x.Last = x.Frame - r.IntN(4)
	switch r.IntN(12) {
	case 0:
		x.Kind = r.IntN(7) - 1
	case 1:
		x.Seat = r.IntN(8) - 2
	case 2:
		x.Frame = r.IntN(3) - 1
	case 3:
		x.Last = r.IntN(most+4) - 2
	case 4, 5, 6:
		// At the edges of some row.
		if len(l) > 0 {
			s := l[r.IntN(len(l))]
			x.Seat, x.Frame, x.Last = s.Seat, []int{s.From, s.Until}[r.IntN(2)]+r.IntN(3)-1, s.From+r.IntN(3)-1
		}
	}
	return x
}

// TestWords: records by chance one behind the other, in tables of all four seats, from nothing, from a host's and from a campaign's on.
func TestWords(t *testing.T) {
	for seed := range uint64(400) {
		r := rand.New(rand.NewPCG(seed, 1604))
		l := [][]api.Span{nil, {{Seat: 0, From: 1}}, resumed()}[seed%3]
		most := 10 + r.IntN(50)
		for i := range 60 {
			// Later frames the later it is, so that seats go round.
			got, e := holds(t, l, chance(r, l, 2+most*(i+1)/60))
			if e != api.OK {
				continue
			}
			l = got
			asked(t, l, most+4)
		}
	}
}

// TestOrdered: whatever records are added, each row of a seat begins behind the end of the one ahead of it, and is ended but for the last one.
func TestOrdered(t *testing.T) {
	for seed := range uint64(400) {
		r := rand.New(rand.NewPCG(seed, 1601))
		var l []api.Span
		for i := range 200 {
			if got, e := Add(l, chance(r, l, 4+i)); e == api.OK {
				l = got
			}
		}
		for seat := range api.Seats {
			rows := rowsOf(l, seat)
			for i := 1; i < len(rows); i++ {
				if rows[i-1].Until == 0 || rows[i].From <= rows[i-1].Until {
					t.Fatalf("P1601: seed %d: %v", seed, rows)
				}
			}
			for _, s := range rows {
				if s.From < 1 || s.Until != 0 && (s.Until <= s.From || s.Last < s.From || s.Last > s.Until) || s.Until == 0 && s.Last != 0 {
					t.Fatalf("P1601: seed %d: %v", seed, rows)
				}
			}
		}
	}
}

// TestAnyRows: rows and numbers such as may not be: every call ends, tells one of the answers that there are, and changes nothing.
func TestAnyRows(t *testing.T) {
	numbers := []int{math.MinInt, math.MinInt + 1, -1 << 32, -5, -1, 0, 1, 2, 3, 4, 5, 9, 1 << 31, 1 << 32, math.MaxInt - 1, math.MaxInt}
	for seed := range uint64(3000) {
		r := rand.New(rand.NewPCG(seed, 1))
		one := func() int {
			if r.IntN(2) == 0 {
				return r.IntN(6)
			}
			return numbers[r.IntN(len(numbers))]
		}
		l := make([]api.Span, r.IntN(7))
		for i := range l {
			l[i] = api.Span{Seat: one(), From: one(), Until: one(), Last: one()}
		}
		in, all := roomy(l)
		was := slices.Clone(all)
		for range 40 {
			x := api.Record{Kind: one(), Input: one(), Seat: one(), Frame: one(), Last: one()}
			got, e := Add(in, x)
			if again, e2 := Add(in, x); e2 != e || !slices.Equal(got, again) {
				t.Fatalf("P3: Add(%v, %+v)", l, x)
			}
			if e != api.OK && (len(got) != 0 || e != api.ErrKind && e != api.ErrSeat && e != api.ErrArg) || e == api.OK && len(got)-len(l) != map[int]int{api.RSeat: 1}[x.Kind] {
				t.Fatalf("P1601: Add(%v, %+v): %v, %v", l, x, got, e)
			}
			scrawl(got)
			seat, frame := one(), one()
			how, _ := How(in, seat, frame)
			if how != api.Absent && how != api.Player && how != api.Robot || Counts(in, seat, frame) && how != api.Player {
				t.Fatalf("P1602: How(%v, %d, %d): %d, %v", l, seat, frame, how, Counts(in, seat, frame))
			}
			if open := Open(in, frame); open != -1 && open != 1 && open != 2 && open != 3 {
				t.Fatalf("P1603: Open(%v, %d): %d", l, frame, open)
			}
		}
		if !slices.Equal(all, was) {
			t.Fatalf("P2: the rows %v, or those around them, changed", l)
		}
	}
}
