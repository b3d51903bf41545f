package table

import (
	"math"
	"slices"
	"testing"

	"adit/api"
)

// seated and retired are records.
func seated(seat, frame int) api.Record {
	return api.Record{Kind: api.RSeat, Seat: seat, Frame: frame}
}

func retired(seat, frame, last int) api.Record {
	return api.Record{Kind: api.RRetire, Seat: seat, Frame: frame, Last: last}
}

// ordinary is a table of all four seats: the host's from 1 on; seat 1 was given up twice and is taken, seat 2 was given up, seat 3 is taken.
func ordinary() []api.Span {
	return []api.Span{
		{Seat: 0, From: 1},
		{Seat: 1, From: 5, Until: 9, Last: 7},
		{Seat: 2, From: 6, Until: 20, Last: 20},
		{Seat: 1, From: 12, Until: 15, Last: 15},
		{Seat: 3, From: 10},
		{Seat: 1, From: 18},
	}
}

// resumed is the table of a campaign that goes on from frame 30: seats 1 and 3 were taken.
func resumed() []api.Span {
	return []api.Span{{Seat: 1, From: 0, Until: 30, Last: 30}, {Seat: 3, From: 0, Until: 30, Last: 30}, {Seat: 0, From: 31}}
}

// odd is a row such as no table has.
func odd() api.Span { return api.Span{Seat: 77, From: -3, Until: -9, Last: 99} }

// roomy is the same table in the midst of more rows; all is the whole of it.
func roomy(l []api.Span) (in, all []api.Span) {
	all = slices.Concat(slices.Repeat([]api.Span{odd()}, 9), l, slices.Repeat([]api.Span{odd()}, 9))
	return all[9 : 9+len(l)], all
}

// scrawl writes over rows, their spare room too.
func scrawl(l []api.Span) {
	l = l[:cap(l)]
	for i := range l {
		l[i] = api.Span{Seat: 55, From: 55, Until: 55, Last: 55}
	}
}

// added holds what Add answers against what it must; asked again, and of rows in the midst of others, it is the same, and these stay as they were.
func added(t *testing.T, l []api.Span, r api.Record, want []api.Span, err api.Errno) []api.Span {
	t.Helper()
	in, all := roomy(l)
	was := slices.Clone(all)
	for range 2 {
		got, e := Add(in, r)
		switch {
		case e != err:
			t.Errorf("P1601: Add(%v, %+v): %v, not %v", l, r, e, err)
		case e != api.OK && len(got) != 0:
			t.Errorf("P4: Add(%v, %+v): %v beside %v", l, r, got, e)
		case !slices.Equal(got, want):
			t.Errorf("P1601: Add(%v, %+v): %v, not %v", l, r, got, want)
		}
		scrawl(got)
		if !slices.Equal(all, was) {
			t.Fatalf("P2: Add(%v, %+v): the rows, or those around them, changed", l, r)
		}
	}
	got, _ := Add(in, r)
	return got
}

// taken and refused hold an Add that must not fail, or must.
func taken(t *testing.T, l []api.Span, r api.Record, want ...api.Span) []api.Span {
	t.Helper()
	return added(t, l, r, want, api.OK)
}

func refused(t *testing.T, l []api.Span, r api.Record, err api.Errno) {
	t.Helper()
	added(t, l, r, nil, err)
}

// moved holds How and Counts against what they must tell; asked again, they tell the same, and the rows stay as they were.
func moved(t *testing.T, l []api.Span, seat, frame, how int, comes, counts bool) {
	t.Helper()
	in, all := roomy(l)
	was := slices.Clone(all)
	for range 2 {
		if h, c := How(in, seat, frame); h != how || c != comes {
			t.Errorf("P1602: How(%v, %d, %d): %d, %v, not %d, %v", l, seat, frame, h, c, how, comes)
		}
		if c := Counts(in, seat, frame); c != counts {
			t.Errorf("P1602: Counts(%v, %d, %d): %v, not %v", l, seat, frame, c, counts)
		}
	}
	if !slices.Equal(all, was) {
		t.Fatalf("P2: How, Counts(%v, %d, %d): the rows, or those around them, changed", l, seat, frame)
	}
}

// Ways in which a seat is moved: absent, absent or a robot whose hero comes, a player whose input counts or does not, a robot.
func absent(t *testing.T, l []api.Span, seat, frame int) {
	t.Helper()
	moved(t, l, seat, frame, api.Absent, false, false)
}

func arriving(t *testing.T, l []api.Span, seat, frame int) {
	t.Helper()
	moved(t, l, seat, frame, api.Absent, true, false)
}

func returning(t *testing.T, l []api.Span, seat, frame int) {
	t.Helper()
	moved(t, l, seat, frame, api.Robot, true, false)
}

func playing(t *testing.T, l []api.Span, seat, frame int) {
	t.Helper()
	moved(t, l, seat, frame, api.Player, false, true)
}

func leaving(t *testing.T, l []api.Span, seat, frame int) {
	t.Helper()
	moved(t, l, seat, frame, api.Player, false, false)
}

func robot(t *testing.T, l []api.Span, seat, frame int) {
	t.Helper()
	moved(t, l, seat, frame, api.Robot, false, false)
}

// opens holds Open against what it must tell; asked again, it tells the same, and the rows stay as they were.
func opens(t *testing.T, l []api.Span, frame, want int) {
	t.Helper()
	in, all := roomy(l)
	was := slices.Clone(all)
	for range 2 {
		if seat := Open(in, frame); seat != want {
			t.Errorf("P1603: Open(%v, %d): %d, not %d", l, frame, seat, want)
		}
	}
	if !slices.Equal(all, was) {
		t.Fatalf("P2: Open(%v, %d): the rows, or those around them, changed", l, frame)
	}
}

// noKinds are numbers of records that Add does not take: an input's, and such as are no kind.
func noKinds() []int {
	l := []int{api.RInput, math.MinInt, math.MaxInt}
	for n := -300; n <= 600; n++ {
		if n < 1 || n > 3 {
			l = append(l, n)
		}
	}
	for n := range 4 {
		l = append(l, n+1<<8, n+1<<16, n+1<<32, n-1<<32, n+1<<62, n+math.MinInt)
	}
	return l
}

// noSeats are numbers that are no seat.
var noSeats = []int{-1, -2, -3, -4, -256, math.MinInt, math.MinInt + 1, math.MinInt + 2, -1 << 32, 4, 5, 6, 7, 8, 256, 257, 1 << 31, 1 << 32, 1<<32 + 1, 1 << 62, math.MaxInt - 1, math.MaxInt}

// late are frames ahead of the first one.
var late = []int{0, -1, -2, -5, -1024, -1 << 31, -1 << 32, math.MinInt + 1, math.MinInt}

// far are frames that are great.
var far = []int{1 << 10, 1<<30 - 1, 1 << 30, 1 << 31, 1<<32 + 1, 1 << 62, math.MaxInt - 1, math.MaxInt}

func TestNumbers(t *testing.T) {
	if api.Seats != 4 || api.RInput != 1 || api.RSeat != 2 || api.RRetire != 3 || api.Absent != 0 || api.Player != 1 || api.Robot != 2 {
		t.Error("api's numbers are not those that these tests are made for")
	}
}

// P1601.

// TestExample is the chapter's.
func TestExample(t *testing.T) {
	l := taken(t, nil, seated(1, 5), api.Span{Seat: 1, From: 5})
	arriving(t, l, 1, 5)
	playing(t, l, 1, 6)
}

// TestAddInARow: records one behind the other, each of the table that the one ahead made.
func TestAddInARow(t *testing.T) {
	var l []api.Span
	for _, x := range []struct {
		r    api.Record
		want []api.Span
	}{
		{seated(0, 1), []api.Span{{Seat: 0, From: 1}}},
		{seated(3, 4), []api.Span{{Seat: 0, From: 1}, {Seat: 3, From: 4}}},
		{seated(1, 4), []api.Span{{Seat: 0, From: 1}, {Seat: 3, From: 4}, {Seat: 1, From: 4}}},
		{retired(3, 9, 8), []api.Span{{Seat: 0, From: 1}, {Seat: 3, From: 4, Until: 9, Last: 8}, {Seat: 1, From: 4}}},
		{seated(2, 3), []api.Span{{Seat: 0, From: 1}, {Seat: 3, From: 4, Until: 9, Last: 8}, {Seat: 1, From: 4}, {Seat: 2, From: 3}}},
		{retired(1, 5, 4), []api.Span{{Seat: 0, From: 1}, {Seat: 3, From: 4, Until: 9, Last: 8}, {Seat: 1, From: 4, Until: 5, Last: 4}, {Seat: 2, From: 3}}},
		{seated(3, 10), []api.Span{{Seat: 0, From: 1}, {Seat: 3, From: 4, Until: 9, Last: 8}, {Seat: 1, From: 4, Until: 5, Last: 4}, {Seat: 2, From: 3}, {Seat: 3, From: 10}}},
		{retired(3, 12, 12), []api.Span{{Seat: 0, From: 1}, {Seat: 3, From: 4, Until: 9, Last: 8}, {Seat: 1, From: 4, Until: 5, Last: 4}, {Seat: 2, From: 3}, {Seat: 3, From: 10, Until: 12, Last: 12}}},
	} {
		l = taken(t, l, x.r, x.want...)
	}
}

// TestAddEachSeat: whoever it is of, and whatever else the record says, the span is at the end, open, with Last 0.
func TestAddEachSeat(t *testing.T) {
	for seat := range api.Seats {
		for _, frame := range append([]int{1, 2, 5}, far...) {
			taken(t, nil, seated(seat, frame), api.Span{Seat: seat, From: frame})
			r := api.Record{Kind: api.RSeat, Input: 9, Seat: seat, Frame: frame, Last: frame + 3}
			taken(t, []api.Span{}, r, api.Span{Seat: seat, From: frame})
			r.Last = -8
			taken(t, nil, r, api.Span{Seat: seat, From: frame})
		}
	}
}

// TestAddInput: a record of a seat that names an input is taken as one that does not.
func TestAddInput(t *testing.T) {
	r := retired(2, 9, 7)
	r.Input = 99
	taken(t, []api.Span{{Seat: 2, From: 5}}, r, api.Span{Seat: 2, From: 5, Until: 9, Last: 7})
}

// TestAddNoKind: the kind is asked first, whatever else is wrong.
func TestAddNoKind(t *testing.T) {
	for _, kind := range noKinds() {
		for _, l := range [][]api.Span{nil, ordinary()} {
			refused(t, l, api.Record{Kind: kind}, api.ErrKind)
			refused(t, l, api.Record{Kind: kind, Input: 3, Seat: 2, Frame: 25, Last: 25}, api.ErrKind)
			refused(t, l, api.Record{Kind: kind, Seat: 4, Frame: 25}, api.ErrKind)
			refused(t, l, api.Record{Kind: kind, Seat: -1, Frame: -1, Last: -1}, api.ErrKind)
			refused(t, l, api.Record{Kind: kind, Seat: 1, Frame: 0}, api.ErrKind)
			refused(t, l, api.Record{Kind: kind, Seat: 3, Frame: 11, Last: 40}, api.ErrKind)
		}
	}
}

// TestAddNoSeat: the seat is asked ahead of the frames, of both kinds.
func TestAddNoSeat(t *testing.T) {
	for _, seat := range noSeats {
		for _, l := range [][]api.Span{nil, ordinary(), {{Seat: seat, From: 3}}, {{Seat: seat, From: 3, Until: 4, Last: 3}}} {
			for _, frame := range []int{math.MinInt, -1, 0, 1, 5, 25, math.MaxInt} {
				refused(t, l, seated(seat, frame), api.ErrSeat)
				refused(t, l, retired(seat, frame, frame), api.ErrSeat)
				refused(t, l, retired(seat, frame, 3), api.ErrSeat)
			}
		}
	}
}

// TestAddNoFrame: a frame below 1 is asked ahead of how the seat stands, of seat 0 too.
func TestAddNoFrame(t *testing.T) {
	for seat := range api.Seats {
		for _, l := range [][]api.Span{nil, ordinary(), resumed(), {{Seat: seat, From: 5}}, {{Seat: seat, From: 5, Until: 9, Last: 7}}, {{Seat: seat, From: 0}}} {
			for _, frame := range late {
				refused(t, l, seated(seat, frame), api.ErrArg)
				for _, last := range []int{math.MinInt, -1, 0, 5, 6, 7, frame, math.MaxInt} {
					refused(t, l, retired(seat, frame, last), api.ErrArg)
				}
			}
		}
	}
}

// TestAddFrameOne is the least one that may be.
func TestAddFrameOne(t *testing.T) {
	for seat := range api.Seats {
		taken(t, nil, seated(seat, 1), api.Span{Seat: seat, From: 1})
	}
	// From 0 no record makes, but a campaign that goes on has it.
	taken(t, []api.Span{{Seat: 2, From: 0}}, retired(2, 1, 0), api.Span{Seat: 2, From: 0, Until: 1, Last: 0})
	taken(t, []api.Span{{Seat: 2, From: 0}}, retired(2, 1, 1), api.Span{Seat: 2, From: 0, Until: 1, Last: 1})
	refused(t, []api.Span{{Seat: 2, From: 1}}, retired(2, 1, 1), api.ErrSeat)
}

// TestSeatOpen: a seat that is taken is not taken again, wherever its span begins.
func TestSeatOpen(t *testing.T) {
	for seat := range api.Seats {
		for _, l := range [][]api.Span{
			{{Seat: seat, From: 5}},
			{{Seat: seat, From: 1}, {Seat: (seat + 1) % 4, From: 2, Until: 3, Last: 3}},
			{{Seat: seat, From: 1, Until: 3, Last: 2}, {Seat: seat, From: 5}},
			{{Seat: seat, From: math.MaxInt}},
		} {
			for frame := 1; frame < 12; frame++ {
				refused(t, l, seated(seat, frame), api.ErrSeat)
			}
			for _, frame := range far {
				refused(t, l, seated(seat, frame), api.ErrSeat)
			}
		}
	}
}

// TestSeatEnded: one that was given up is taken again behind its end, by its last span.
func TestSeatEnded(t *testing.T) {
	for seat := range api.Seats {
		for _, l := range [][]api.Span{
			{{Seat: seat, From: 5, Until: 9, Last: 7}},
			{{Seat: seat, From: 1, Until: 3, Last: 2}, {Seat: seat, From: 5, Until: 9, Last: 9}},
			{{Seat: seat, From: 0, Until: 9, Last: 9}},
		} {
			for frame := 1; frame <= 9; frame++ {
				refused(t, l, seated(seat, frame), api.ErrSeat)
			}
			for _, frame := range append([]int{10, 11}, far...) {
				taken(t, l, seated(seat, frame), append(slices.Clone(l), api.Span{Seat: seat, From: frame})...)
			}
		}
	}
}

// TestSeatEndedLate: the end counts, not the last frame whose input does, however great it is.
func TestSeatEndedLate(t *testing.T) {
	for _, end := range far {
		l := []api.Span{{Seat: 2, From: 5, Until: end, Last: 5}}
		refused(t, l, seated(2, 6), api.ErrSeat)
		refused(t, l, seated(2, end-1), api.ErrSeat)
		refused(t, l, seated(2, end), api.ErrSeat)
		if end < math.MaxInt {
			taken(t, l, seated(2, end+1), l[0], api.Span{Seat: 2, From: end + 1})
		}
	}
}

// TestRetireHost: the host's is not given up, whatever else is wrong.
func TestRetireHost(t *testing.T) {
	for _, l := range [][]api.Span{nil, ordinary(), resumed(), {{Seat: 0, From: 1}}, {{Seat: 0, From: 0}}, {{Seat: 0, From: 1, Until: 5, Last: 5}}} {
		for _, frame := range append([]int{1, 2, 3, 40}, far...) {
			for _, last := range []int{-1, 0, 1, frame - 1, frame, 5} {
				refused(t, l, retired(0, frame, last), api.ErrSeat)
			}
		}
	}
}

// TestRetireNobody: a seat that nobody has, and one that was given up already, are not given up.
func TestRetireNobody(t *testing.T) {
	for seat := 1; seat < api.Seats; seat++ {
		other := seat%3 + 1
		for _, l := range [][]api.Span{
			nil,
			{{Seat: 0, From: 1}},
			{{Seat: 0, From: 1}, {Seat: other, From: 2}},
			{{Seat: seat, From: 5, Until: 9, Last: 7}},
			{{Seat: seat, From: 5, Until: 9, Last: 7}, {Seat: other, From: 2}},
			{{Seat: seat, From: 1, Until: 3, Last: 2}, {Seat: seat, From: 5, Until: 9, Last: 9}},
			{{Seat: seat, From: 0, Until: 9, Last: 9}},
		} {
			for frame := 1; frame < 13; frame++ {
				for last := -1; last < 14; last++ {
					refused(t, l, retired(seat, frame, last), api.ErrSeat)
				}
			}
			for _, frame := range far {
				refused(t, l, retired(seat, frame, frame), api.ErrSeat)
			}
		}
	}
}

// TestRetireTooEarly: a span that begins at the frame or behind it is not ended there, whatever Last is.
func TestRetireTooEarly(t *testing.T) {
	for seat := 1; seat < api.Seats; seat++ {
		for _, l := range [][]api.Span{
			{{Seat: seat, From: 6}},
			{{Seat: 0, From: 1}, {Seat: seat, From: 1, Until: 3, Last: 2}, {Seat: seat, From: 6}, {Seat: seat%3 + 1, From: 2}},
		} {
			for frame := 1; frame <= 6; frame++ {
				for last := -1; last < 9; last++ {
					refused(t, l, retired(seat, frame, last), api.ErrSeat)
				}
			}
			refused(t, l, retired(seat, 7, 5), api.ErrArg)
		}
	}
}

// TestRetireLast: Last is From to the frame, both too.
func TestRetireLast(t *testing.T) {
	for seat := 1; seat < api.Seats; seat++ {
		for _, from := range []int{0, 1, 5, 1 << 31, math.MaxInt - 9} {
			l := []api.Span{{Seat: seat, From: from}}
			for frame := from + 1; frame <= from+4; frame++ {
				for last := from; last <= frame; last++ {
					taken(t, l, retired(seat, frame, last), api.Span{Seat: seat, From: from, Until: frame, Last: last})
				}
				for _, last := range []int{math.MinInt, -1 << 32, -1, from - 2, from - 1, frame + 1, frame + 2, math.MaxInt} {
					refused(t, l, retired(seat, frame, last), api.ErrArg)
				}
			}
		}
	}
	l := []api.Span{{Seat: 1, From: 5}}
	for _, frame := range far {
		taken(t, l, retired(1, frame, 5), api.Span{Seat: 1, From: 5, Until: frame, Last: 5})
		taken(t, l, retired(1, frame, frame), api.Span{Seat: 1, From: 5, Until: frame, Last: frame})
		refused(t, l, retired(1, frame, 4), api.ErrArg)
	}
}

// TestRetireWhichRow: the seat's last row is turned, where it stands; no other one is.
func TestRetireWhichRow(t *testing.T) {
	want := ordinary()
	want[5] = api.Span{Seat: 1, From: 18, Until: 22, Last: 19}
	taken(t, ordinary(), retired(1, 22, 19), want...)
	want = ordinary()
	want[4] = api.Span{Seat: 3, From: 10, Until: 22, Last: 19}
	taken(t, ordinary(), retired(3, 22, 19), want...)
	for at := range 6 {
		l := []api.Span{{Seat: 0, From: 1}, {Seat: 1, From: 1, Until: 3, Last: 2}, {Seat: 3, From: 1, Until: 4, Last: 2}, {Seat: 1, From: 5, Until: 6, Last: 6}, {Seat: 3, From: 7}}
		l = slices.Insert(l, at, api.Span{Seat: 2, From: 8})
		want := slices.Clone(l)
		want[at] = api.Span{Seat: 2, From: 8, Until: 11, Last: 10}
		taken(t, l, retired(2, 11, 10), want...)
	}
}

// TestAddOrder: of several errors the first one in the order of the words.
func TestAddOrder(t *testing.T) {
	l := []api.Span{{Seat: 0, From: 1}, {Seat: 1, From: 5}, {Seat: 2, From: 5, Until: 9, Last: 7}}
	for i, x := range []struct {
		r   api.Record
		err api.Errno
	}{
		{api.Record{Kind: api.RInput, Seat: 4, Frame: 0, Last: -1}, api.ErrKind},
		{api.Record{Kind: 4, Seat: 1, Frame: 0, Last: -1}, api.ErrKind},
		{api.Record{Kind: 0, Seat: 1, Frame: 5, Last: 4}, api.ErrKind},
		{seated(4, 0), api.ErrSeat},
		{retired(4, 0, -1), api.ErrSeat},
		{retired(-1, 0, -1), api.ErrSeat},
		{seated(1, 0), api.ErrArg},
		{seated(2, 0), api.ErrArg},
		{retired(0, 0, -1), api.ErrArg},
		{retired(1, 0, -1), api.ErrArg},
		{retired(2, 0, 7), api.ErrArg},
		{retired(3, 0, 0), api.ErrArg},
		{seated(1, 1), api.ErrSeat},
		{seated(2, 9), api.ErrSeat},
		{retired(0, 1, 9), api.ErrSeat},
		{retired(1, 5, 9), api.ErrSeat},
		{retired(1, 4, 4), api.ErrSeat},
		{retired(2, 8, 9), api.ErrSeat},
		{retired(3, 8, 9), api.ErrSeat},
		{retired(1, 6, 4), api.ErrArg},
		{retired(1, 6, 7), api.ErrArg},
	} {
		if got, e := Add(l, x.r); e != x.err || len(got) != 0 {
			t.Errorf("P6: %d: %+v: %v, %v, not %v", i, x.r, got, e, x.err)
		}
	}
}

// TestAddOthers: what other seats' rows are changes nothing: of all ways in which others stand the same is answered.
func TestAddOthers(t *testing.T) {
	for seat := range api.Seats {
		for _, own := range [][]api.Span{nil, {{Seat: seat, From: 5}}, {{Seat: seat, From: 5, Until: 9, Last: 7}}} {
			for _, other := range others(seat) {
				both := append(slices.Clone(own), other...)
				for frame := range 13 {
					for last := 3; last < 13; last++ {
						for _, r := range []api.Record{seated(seat, frame), retired(seat, frame, last)} {
							alone, e1 := Add(own, r)
							got, e2 := Add(both, r)
							if e1 != e2 || !slices.Equal(rowsOf(got, seat), alone) {
								t.Fatalf("P1601: %+v: %v of %v, %v of %v", r, e1, own, e2, both)
							}
							if e2 == api.OK && !slices.Equal(without(got, seat), other) {
								t.Fatalf("P1601: %+v of %v: %v: rows of others changed", r, both, got)
							}
						}
					}
				}
			}
		}
	}
}

// others are tables without a seat.
func others(seat int) [][]api.Span {
	a, b := (seat+1)%4, (seat+3)%4
	return [][]api.Span{
		{{Seat: a, From: 3}},
		{{Seat: a, From: 5}, {Seat: b, From: 5, Until: 9, Last: 7}},
		{{Seat: b, From: 9, Until: 10, Last: 9}, {Seat: a, From: 1, Until: 2, Last: 2}, {Seat: b, From: 11}},
		{{Seat: a, From: 1 << 40}, {Seat: b, From: 0, Until: 1 << 40, Last: 1 << 40}},
	}
}

func rowsOf(l []api.Span, seat int) []api.Span {
	return slices.DeleteFunc(slices.Clone(l), func(s api.Span) bool { return s.Seat != seat })
}

func without(l []api.Span, seat int) []api.Span {
	return slices.DeleteFunc(slices.Clone(l), func(s api.Span) bool { return s.Seat == seat })
}

// TestAddApart: two answers share nothing (P2), not even their spare room.
func TestAddApart(t *testing.T) {
	for _, r := range []api.Record{seated(2, 30), retired(1, 30, 30), retired(3, 30, 10)} {
		l := ordinary()
		a, _ := Add(l, r)
		b, _ := Add(l, r)
		c, _ := Add(a, retired(1, 25, 25))
		want, third := slices.Clone(b), slices.Clone(c)
		scrawl(a)
		if !slices.Equal(b, want) || !slices.Equal(l, ordinary()) || !slices.Equal(c, third) {
			t.Errorf("P2: %+v: answers share rows", r)
		}
		scrawl(l)
		if !slices.Equal(b, want) {
			t.Errorf("P2: %+v: an answer shares rows with what was handed in", r)
		}
	}
	// Two that are made of one with spare room do not meet in it.
	room := make([]api.Span, 1, 50)
	room[0] = api.Span{Seat: 0, From: 1}
	a, _ := Add(room, seated(1, 5))
	b, _ := Add(room, seated(2, 6))
	if !slices.Equal(a, []api.Span{{Seat: 0, From: 1}, {Seat: 1, From: 5}}) || !slices.Equal(b, []api.Span{{Seat: 0, From: 1}, {Seat: 2, From: 6}}) {
		t.Errorf("P2: %v, %v", a, b)
	}
	for _, s := range room[1:cap(room)] {
		if s != (api.Span{}) {
			t.Fatal("P2: spare room was written to")
		}
	}
	// So it is of none with spare room.
	none := make([]api.Span, 0, 50)
	a, _ = Add(none, seated(1, 5))
	b, _ = Add(none, seated(2, 6))
	if a[0] != (api.Span{Seat: 1, From: 5}) || b[0] != (api.Span{Seat: 2, From: 6}) || none[:1][0] != (api.Span{}) {
		t.Errorf("P2: %v, %v", a, b)
	}
}

// P1602.

// TestHowFirst: ahead of its first span nobody moves a seat; in its first frame its hero comes, and an open one is a player's from then on.
func TestHowFirst(t *testing.T) {
	for seat := range api.Seats {
		for _, from := range []int{0, 1, 5, 1 << 31, math.MaxInt - 9} {
			l := []api.Span{{Seat: seat, From: from}}
			for frame := from - 6; frame < from; frame++ {
				absent(t, l, seat, frame)
			}
			for _, frame := range []int{math.MinInt, -1 << 32, -1} {
				absent(t, l, seat, frame)
			}
			arriving(t, l, seat, from)
			for frame := from + 1; frame < from+9; frame++ {
				playing(t, l, seat, frame)
			}
			for _, frame := range []int{math.MaxInt - 1, math.MaxInt} {
				playing(t, l, seat, frame)
			}
		}
	}
}

// TestHowEnded: what counts up to Last, is a player's up to Until, and a robot's behind it.
func TestHowEnded(t *testing.T) {
	for seat := range api.Seats {
		for last := 5; last <= 9; last++ {
			l := []api.Span{{Seat: seat, From: 5, Until: 9, Last: last}}
			absent(t, l, seat, 4)
			arriving(t, l, seat, 5)
			for frame := 6; frame <= last; frame++ {
				playing(t, l, seat, frame)
			}
			for frame := last + 1; frame <= 9; frame++ {
				leaving(t, l, seat, frame)
			}
			for _, frame := range append([]int{10, 11, 12, 99}, far...) {
				robot(t, l, seat, frame)
			}
		}
	}
}

// TestHowShort: a span of two frames.
func TestHowShort(t *testing.T) {
	for last := 5; last <= 6; last++ {
		l := []api.Span{{Seat: 1, From: 5, Until: 6, Last: last}}
		arriving(t, l, 1, 5)
		moved(t, l, 1, 6, api.Player, false, last == 6)
		robot(t, l, 1, 7)
	}
}

// TestHowSeveral: three spans of a seat; the first frame of those behind the first one is a robot's.
func TestHowSeveral(t *testing.T) {
	l := ordinary()
	for _, frame := range []int{math.MinInt, -1, 0, 1, 4} {
		absent(t, l, 1, frame)
	}
	arriving(t, l, 1, 5)
	playing(t, l, 1, 6)
	playing(t, l, 1, 7)
	leaving(t, l, 1, 8)
	leaving(t, l, 1, 9)
	robot(t, l, 1, 10)
	robot(t, l, 1, 11)
	returning(t, l, 1, 12)
	playing(t, l, 1, 13)
	playing(t, l, 1, 14)
	playing(t, l, 1, 15)
	robot(t, l, 1, 16)
	robot(t, l, 1, 17)
	returning(t, l, 1, 18)
	for _, frame := range append([]int{19, 20, 21, 99}, far...) {
		playing(t, l, 1, frame)
	}
	// The others of that table.
	absent(t, l, 0, 0)
	arriving(t, l, 0, 1)
	playing(t, l, 0, 2)
	playing(t, l, 0, 99)
	absent(t, l, 2, 5)
	arriving(t, l, 2, 6)
	playing(t, l, 2, 7)
	playing(t, l, 2, 20)
	robot(t, l, 2, 21)
	absent(t, l, 3, 9)
	arriving(t, l, 3, 10)
	playing(t, l, 3, 11)
}

// TestHowAtOnce: a seat that is taken in the first frame behind its end.
func TestHowAtOnce(t *testing.T) {
	l := []api.Span{{Seat: 3, From: 5, Until: 9, Last: 8}, {Seat: 3, From: 10, Until: 11, Last: 10}, {Seat: 3, From: 12}}
	playing(t, l, 3, 8)
	leaving(t, l, 3, 9)
	returning(t, l, 3, 10)
	leaving(t, l, 3, 11)
	returning(t, l, 3, 12)
	playing(t, l, 3, 13)
}

// TestHowResumed: heroes of a campaign that goes on are robots till they are taken.
func TestHowResumed(t *testing.T) {
	l := resumed()
	for _, seat := range []int{1, 3} {
		absent(t, l, seat, -1)
		arriving(t, l, seat, 0)
		playing(t, l, seat, 1)
		playing(t, l, seat, 30)
		robot(t, l, seat, 31)
		robot(t, l, seat, 99)
	}
	absent(t, l, 0, 0)
	absent(t, l, 0, 30)
	arriving(t, l, 0, 31)
	playing(t, l, 0, 32)
	absent(t, l, 2, 31)
	l = taken(t, l, seated(3, 40), append(resumed(), api.Span{Seat: 3, From: 40})...)
	robot(t, l, 3, 39)
	returning(t, l, 3, 40)
	playing(t, l, 3, 41)
}

// TestHowNobody: a seat without rows, and one that is none.
func TestHowNobody(t *testing.T) {
	for _, frame := range append([]int{math.MinInt, -1, 0, 1, 5, 6, 9, 12, 20, 31}, far...) {
		for seat := range api.Seats {
			absent(t, nil, seat, frame)
			absent(t, []api.Span{}, seat, frame)
			absent(t, without(ordinary(), seat), seat, frame)
		}
		for _, seat := range noSeats {
			absent(t, nil, seat, frame)
			absent(t, ordinary(), seat, frame)
			absent(t, resumed(), seat, frame)
		}
	}
}

// TestHowOthers: rows of other seats change nothing, wherever they stand.
func TestHowOthers(t *testing.T) {
	for seat := range api.Seats {
		for _, own := range [][]api.Span{nil, {{Seat: seat, From: 5}}, {{Seat: seat, From: 5, Until: 9, Last: 7}}, {{Seat: seat, From: 2, Until: 4, Last: 4}, {Seat: seat, From: 5, Until: 9, Last: 7}}} {
			for _, other := range others(seat) {
				for at := range len(own) + 1 {
					both := slices.Insert(slices.Clone(own), at, other...)
					for frame := -1; frame < 14; frame++ {
						how, comes := How(own, seat, frame)
						moved(t, both, seat, frame, how, comes, Counts(own, seat, frame))
					}
				}
			}
		}
	}
}

// P1603.

// TestOpenNobody: no row, and rows of the host alone.
func TestOpenNobody(t *testing.T) {
	for _, frame := range append([]int{math.MinInt, -1, 0, 1, 5}, far...) {
		opens(t, nil, frame, 1)
		opens(t, []api.Span{}, frame, 1)
		opens(t, []api.Span{{Seat: 0, From: 1}}, frame, 1)
		opens(t, []api.Span{{Seat: 0, From: 31}}, frame, 1)
		opens(t, []api.Span{{Seat: 0, From: 0, Until: 5, Last: 5}}, frame, 1)
	}
}

// TestOpenTaken: the lowest seat that is not taken, whichever of the others are, and whenever their spans begin.
func TestOpenTaken(t *testing.T) {
	for which := range 8 {
		l := []api.Span{{Seat: 0, From: 1}}
		want := -1
		for seat := 3; seat >= 1; seat-- {
			if which>>(seat-1)&1 == 1 {
				l = append(l, api.Span{Seat: seat, From: 10 * seat})
			} else {
				want = seat
			}
		}
		for _, frame := range append([]int{math.MinInt, -1, 0, 1, 9, 10, 20, 30, 31}, far...) {
			opens(t, l, frame, want)
			slices.Reverse(l)
			opens(t, l, frame, want)
		}
	}
}

// TestOpenGivenUp: one that was given up is open from its end on, not ahead of it.
func TestOpenGivenUp(t *testing.T) {
	for seat := 1; seat < api.Seats; seat++ {
		l := []api.Span{{Seat: 0, From: 1}, {Seat: 1, From: 5}, {Seat: 2, From: 5}, {Seat: 3, From: 6}}
		l[seat].Until, l[seat].Last = 9, 7
		for _, frame := range []int{math.MinInt, -1, 0, 5, 6, 7, 8} {
			opens(t, l, frame, -1)
		}
		for _, frame := range append([]int{9, 10, 99}, far...) {
			opens(t, l, frame, seat)
		}
	}
}

// TestOpenLast: the seat's last span tells it; one that is to begin keeps it taken.
func TestOpenLast(t *testing.T) {
	full := []api.Span{{Seat: 2, From: 1}, {Seat: 3, From: 1}}
	for frame := range 30 {
		opens(t, append(slices.Clone(full), api.Span{Seat: 1, From: 5, Until: 9, Last: 9}, api.Span{Seat: 1, From: 12}), frame, -1)
		want := -1
		if frame >= 15 {
			want = 1
		}
		opens(t, append(slices.Clone(full), api.Span{Seat: 1, From: 5, Until: 9, Last: 9}, api.Span{Seat: 1, From: 12, Until: 15, Last: 12}), frame, want)
	}
}

// TestOpenLowest: of several that were given up the lowest one whose end is there.
func TestOpenLowest(t *testing.T) {
	l := []api.Span{{Seat: 0, From: 1}, {Seat: 3, From: 2, Until: 5, Last: 5}, {Seat: 1, From: 2, Until: 20, Last: 3}, {Seat: 2, From: 2, Until: 12, Last: 3}}
	for frame := range 40 {
		want := -1
		switch {
		case frame >= 20:
			want = 1
		case frame >= 12:
			want = 2
		case frame >= 5:
			want = 3
		}
		opens(t, l, frame, want)
	}
}

func TestOpenFar(t *testing.T) {
	opens(t, []api.Span{{Seat: 1, From: math.MaxInt}}, math.MaxInt, 2)
	for _, end := range far {
		l := []api.Span{{Seat: 1, From: 5, Until: end, Last: 6}, {Seat: 2, From: 1}, {Seat: 3, From: 1}}
		opens(t, l, 0, -1)
		opens(t, l, end-1, -1)
		opens(t, l, end, 1)
		opens(t, l, math.MaxInt, 1)
	}
}

// TestOpenIsTaken: the seat that Open tells at a frame can be taken in the next one, and no lower one can.
func TestOpenIsTaken(t *testing.T) {
	for _, l := range [][]api.Span{nil, ordinary(), resumed()} {
		for frame := range 60 {
			open := Open(l, frame)
			for seat := 1; seat < api.Seats; seat++ {
				_, e := Add(l, seated(seat, frame+1))
				switch {
				case seat == open && e != api.OK:
					t.Errorf("P1603: %v: seat %d, open at %d, is not taken behind it: %v", l, seat, frame, e)
				case (open < 0 || seat < open) && e != api.ErrSeat:
					t.Errorf("P1603: %v: seat %d, lower than %d, at %d: %v", l, seat, open, frame, e)
				}
			}
		}
	}
}

// P1604.

// TestTaken: a seat that is taken at J counts from J + 1 on, not ahead of it.
func TestTaken(t *testing.T) {
	for _, l := range [][]api.Span{nil, {{Seat: 0, From: 1}}, {{Seat: 0, From: 1}, {Seat: 1, From: 2, Until: 4, Last: 3}, {Seat: 2, From: 1, Until: 3, Last: 3}, {Seat: 3, From: 3, Until: 4, Last: 4}}} {
		for seat := 1; seat < api.Seats; seat++ {
			for at := 5; at < 12; at++ {
				got, e := Add(l, seated(seat, at))
				if e != api.OK {
					t.Fatalf("P1601: %v: seat %d at %d: %v", l, seat, at, e)
				}
				for frame := 5; frame < 30; frame++ {
					how, comes := How(got, seat, frame)
					if Counts(got, seat, frame) != (frame > at) || (how == api.Player) != (frame > at) || comes != (frame == at) {
						t.Errorf("P1604: %v: seat %d, taken at %d: at %d: %d, %v, %v", l, seat, at, frame, how, comes, Counts(got, seat, frame))
					}
				}
			}
		}
	}
}

// TestRetired: one that is retired at R is a robot from R + 1 on, not ahead of it, and counts up to Last.
func TestRetired(t *testing.T) {
	for _, ahead := range [][]api.Span{nil, {{Seat: 0, From: 1}}, {{Seat: 1, From: 1, Until: 3, Last: 2}, {Seat: 2, From: 1, Until: 4, Last: 4}, {Seat: 3, From: 0, Until: 1, Last: 1}}} {
		for seat := 1; seat < api.Seats; seat++ {
			l := append(slices.Clone(ahead), api.Span{Seat: seat, From: 5})
			for at := 6; at < 12; at++ {
				for last := 5; last <= at; last++ {
					got, e := Add(l, retired(seat, at, last))
					if e != api.OK {
						t.Fatalf("P1601: %v: seat %d at %d, last %d: %v", l, seat, at, last, e)
					}
					for frame := 6; frame < 30; frame++ {
						how, comes := How(got, seat, frame)
						if (how == api.Robot) != (frame > at) || (how == api.Player) != (frame <= at) || comes || Counts(got, seat, frame) != (frame <= last) {
							t.Errorf("P1604: %v: seat %d, retired at %d, last %d: at %d: %d, %v, %v", l, seat, at, last, frame, how, comes, Counts(got, seat, frame))
						}
					}
				}
			}
		}
	}
}

// TestGoesRound: a seat that is taken, retired and taken again, for long.
func TestGoesRound(t *testing.T) {
	var l []api.Span
	for i := range 50 {
		from := 1 + 7*i
		l = taken(t, l, seated(2, from), append(slices.Clone(l), api.Span{Seat: 2, From: from})...)
		want := slices.Clone(l)
		want[i] = api.Span{Seat: 2, From: from, Until: from + 4, Last: from + 2}
		l = taken(t, l, retired(2, from+4, from+2), want...)
	}
	for i := range 50 {
		from := 1 + 7*i
		if i == 0 {
			arriving(t, l, 2, from)
		} else {
			returning(t, l, 2, from)
		}
		playing(t, l, 2, from+1)
		playing(t, l, 2, from+2)
		leaving(t, l, 2, from+3)
		leaving(t, l, 2, from+4)
		robot(t, l, 2, from+5)
		robot(t, l, 2, from+6)
	}
	opens(t, append(slices.Clone(l), api.Span{Seat: 1, From: 1}, api.Span{Seat: 3, From: 1}), 347, -1)
	opens(t, append(slices.Clone(l), api.Span{Seat: 1, From: 1}, api.Span{Seat: 3, From: 1}), 348, 2)
}
