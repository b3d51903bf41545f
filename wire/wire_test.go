package wire

import (
	"bytes"
	"math"
	"reflect"
	"slices"
	"strconv"
	"testing"

	"adit/api"
)

// Datagrams.

// sample is an ordinary datagram, and its bytes.
type sample struct {
	is    Msg
	bytes string
}

// samples are some of each kind, each written out; the numbers of each are told apart.
func samples() []sample {
	return append(upwards(), downwards()...)
}

// upwards are those that go to the host.
func upwards() []sample {
	return []sample{
		{Msg{Kind: KJoin, Transfer: 7, Watch: true}, "\x01\x00\x00\x00\x07\x01"},
		{Msg{Kind: KJoin, Transfer: 0x12345678}, "\x01\x12\x34\x56\x78\x00"},
		{Msg{Kind: KUp}, "\x02" + string(make([]byte, 41))},
		{
			Msg{Kind: KUp, Epoch: 0x01020304, Transfer: 0x05060708, Bits: 0xFEDCBA98, Records: 9, Heard: [api.Seats]int{0x0A, 0x0B00, 0x0C0000, 0x0D000000}, Live: 0x0E, First: 0x0F, Inputs: []int{0, 10, 3}},
			"\x02\x01\x02\x03\x04\x05\x06\x07\x08\xFE\xDC\xBA\x98\x00\x00\x00\x09" +
				"\x00\x00\x00\x0A\x00\x00\x0B\x00\x00\x0C\x00\x00\x0D\x00\x00\x00\x00\x00\x00\x0E\x00\x00\x00\x0F\x03\x00\x0A\x03",
		},
	}
}

// downwards are those that come from it.
func downwards() []sample {
	return []sample{
		{Msg{Kind: KDown, Stage: api.SAsks}, "\x03" + "\x00\x00\x00\x00\x00\x00\x00\x00\x01" + string(make([]byte, 35))},
		{
			Msg{
				Kind: KDown, Epoch: 0x01020304, Transfer: 0x05060708, Stage: api.SSeated, Seat: -1, Base: 0x09, From: 0x0A,
				Stream: []api.Record{{Kind: api.RInput, Input: 9}, {Kind: api.RSeat, Seat: 1, Frame: 0x0B0C0D0E}, {Kind: api.RRetire, Seat: 3, Frame: 0x0F, Last: 0x3FFFFFFF}, {Kind: api.RInput}},
				Firsts: [api.Seats]int{0x10, 0x1100, 0x120000, 0x13000000}, Seats: [api.Seats][]int{nil, {5}, {6, 7}, {1, 2, 4}}, Ack: 0x14,
			},
			"\x03\x01\x02\x03\x04\x05\x06\x07\x08\x05\x04\x00\x00\x00\x09\x00\x00\x00\x0A" +
				"\x00\x04\x01\x09\x02\x01\x0B\x0C\x0D\x0E\x03\x03\x00\x00\x00\x0F\x3F\xFF\xFF\xFF\x01\x00" +
				"\x00\x00\x00\x10\x00\x00\x00\x11\x00\x01\x05\x00\x12\x00\x00\x02\x06\x07\x13\x00\x00\x00\x03\x01\x02\x04\x00\x00\x00\x14",
		},
		{Msg{Kind: KDown, Stage: api.SLate, Seat: 3}, "\x03" + "\x00\x00\x00\x00\x00\x00\x00\x00\x07\x03" + string(make([]byte, 34))},
		{Msg{Kind: KChunk, Total: 1}, "\x04" + string(make([]byte, 12)) + "\x00\x01\x00"},
		{
			Msg{Kind: KChunk, Epoch: 0x01020304, Transfer: 0x05060708, Base: 0x090A, Index: 2, Total: 3, Data: []byte("a\xFF\x00")},
			"\x04\x01\x02\x03\x04\x05\x06\x07\x08\x00\x00\x09\x0A\x02\x03\x03a\xFF\x00",
		},
	}
}

// full are the longest datagrams, each field as great as it may be.
func full() []Msg {
	const most = 1<<30 - 1
	four := [api.Seats]int{most, most, most, most}
	row := func() []int { return slices.Repeat([]int{10}, 255) }
	return []Msg{
		{Kind: KJoin, Transfer: most, Watch: true},
		{Kind: KUp, Epoch: most, Transfer: most, Bits: math.MaxUint32, Records: most, Heard: four, Live: most, First: most, Inputs: row()},
		{
			Kind: KDown, Epoch: most, Transfer: most, Stage: 7, Seat: 3, Base: most, From: most, Firsts: four, Ack: most,
			Stream: slices.Repeat([]api.Record{{Kind: api.RRetire, Seat: 3, Frame: most, Last: most}}, 400), Seats: [api.Seats][]int{row(), row(), row(), row()},
		},
		{Kind: KChunk, Epoch: most, Transfer: most, Base: most, Index: 15, Total: 16, Data: slices.Repeat([]byte{255}, 64)},
	}
}

// twin is the same datagram, with lists of its own.
func twin(m Msg) Msg {
	m.Inputs, m.Stream, m.Data = slices.Clone(m.Inputs), slices.Clone(m.Stream), slices.Clone(m.Data)
	for seat := range m.Seats {
		m.Seats[seat] = slices.Clone(m.Seats[seat])
	}
	return m
}

// equal tells whether all fields of two datagrams are the same, those that no row names too; a list that is none is an empty one.
func equal(a, b Msg) bool {
	some := func(m Msg) Msg {
		m.Inputs, m.Stream, m.Data = append([]int{}, m.Inputs...), append([]api.Record{}, m.Stream...), append([]byte{}, m.Data...)
		for seat := range m.Seats {
			m.Seats[seat] = append([]int{}, m.Seats[seat]...)
		}
		return m
	}
	return reflect.DeepEqual(some(a), some(b))
}

// roomy is the same list in the midst of more; all is the whole of it.
func roomy[T any](l []T, around T) (in, all []T) {
	all = slices.Concat(slices.Repeat([]T{around}, 50), l, slices.Repeat([]T{around}, 50))
	return all[50 : 50+len(l)], all
}

// spacious is a datagram whose lists have room around them; stays tells whether these, with what is around them, are as they were.
func spacious(m Msg) (in Msg, stays func() bool) {
	var stay []func() bool
	in = m
	in.Inputs = kept(m.Inputs, 5, &stay)
	in.Stream = kept(m.Stream, api.Record{Kind: api.RSeat, Frame: 4}, &stay)
	in.Data = kept(m.Data, 0x5B, &stay)
	for seat := range m.Seats {
		in.Seats[seat] = kept(m.Seats[seat], 6, &stay)
	}
	return in, func() bool { return !slices.ContainsFunc(stay, func(is func() bool) bool { return !is() }) }
}

// kept is the same list with room around it, and one more that tells whether it stays.
func kept[T comparable](l []T, around T, stay *[]func() bool) []T {
	in, all := roomy(l, around)
	was := slices.Clone(all)
	*stay = append(*stay, func() bool { return slices.Equal(all, was) })
	return in
}

// scrawl writes over a list, its spare room too.
func scrawl[T any](l []T, with T) {
	l = l[:cap(l)]
	for i := range l {
		l[i] = with
	}
}

// scrawls write over the lists of a datagram, one each.
func scrawls(m Msg) []func() {
	l := []func(){
		func() { scrawl(m.Inputs, -77) },
		func() { scrawl(m.Stream, api.Record{Kind: -9, Last: 66}) },
		func() { scrawl(m.Data, 0xAB) },
	}
	for seat := range m.Seats {
		l = append(l, func() { scrawl(m.Seats[seat], 88) })
	}
	return l
}

func scrawlAll(m Msg) {
	for _, over := range scrawls(m) {
		over()
	}
}

// encoded holds the bytes that Encode tells against what they must be, whenever it is asked, and that the datagram stays as it was.
func encoded(t *testing.T, what string, m Msg, want []byte) {
	t.Helper()
	in, stays := spacious(m)
	for range 2 {
		if b, err := Encode(in); err != api.OK || !bytes.Equal(b, want) {
			t.Errorf("P1501: %s: Encode: %v, % x, not % x", what, err, b, want)
		}
	}
	if !stays() {
		t.Errorf("P2: %s: Encode changed the datagram", what)
	}
}

// refused holds the error of Encode against what it must be.
func refused(t *testing.T, what string, m Msg, want api.Errno) {
	t.Helper()
	in, stays := spacious(m)
	for range 2 {
		if b, err := Encode(in); err != want || len(b) != 0 {
			t.Errorf("P1501: %s: Encode: %v, not %v; beside it %d bytes", what, err, want, len(b))
		}
	}
	if !stays() {
		t.Errorf("P2: %s: Encode changed the datagram", what)
	}
}

// parsed holds the datagram that Parse tells against what it must be, all its fields, whenever it is asked, and that the bytes stay as they were.
func parsed(t *testing.T, what string, b []byte, want Msg) {
	t.Helper()
	in, all := roomy(b, 0x5B)
	was := slices.Clone(all)
	for range 2 {
		if m, err := Parse(in); err != api.OK || !equal(m, want) {
			t.Errorf("P1501: %s: Parse: %v, %+v, not %+v", what, err, m, want)
		}
	}
	if !bytes.Equal(all, was) {
		t.Errorf("P2: %s: Parse changed the bytes", what)
	}
}

// unparsed holds the error of Parse against what it must be, and that there is nothing beside it.
func unparsed(t *testing.T, what string, b []byte, want api.Errno) {
	t.Helper()
	in, all := roomy(b, 0x5B)
	was := slices.Clone(all)
	for range 2 {
		if m, err := Parse(in); err != want || !equal(m, Msg{}) {
			t.Errorf("P1501: %s: Parse: %v, not %v; beside it %+v", what, err, want, m)
		}
	}
	if !bytes.Equal(all, was) {
		t.Errorf("P2: %s: Parse changed the bytes", what)
	}
}

// passes holds that a datagram may be, and is the same as bytes and back: no field that its row names is lost.
func passes(t *testing.T, what string, m Msg) {
	t.Helper()
	encoded(t, what, m, bytesOf(m))
	parsed(t, what, bytesOf(m), m)
}

// turned are bytes with one of them turned into another.
func turned(b string, at int, c byte) []byte {
	l := []byte(b)
	l[at] = c
	return l
}

// P1501: ordinary datagrams.

func TestWrittenOut(t *testing.T) {
	for i, x := range samples() {
		what := strconv.Itoa(i)
		if !bytes.Equal(bytesOf(x.is), []byte(x.bytes)) {
			t.Fatalf("the test is wrong: %s: % x, % x", what, bytesOf(x.is), x.bytes)
		}
		encoded(t, what, x.is, []byte(x.bytes))
		parsed(t, what, []byte(x.bytes), x.is)
	}
}

func TestFull(t *testing.T) {
	for _, m := range full() {
		want := map[int]int{KJoin: 6, KUp: 1 + 40 + 256, KDown: 1 + 20 + 400*10 + 4*260 + 4, KChunk: 1 + 12 + 3 + 64}[m.Kind]
		if n := len(bytesOf(m)); n != want {
			t.Fatalf("the test is wrong: kind %d: %d bytes", m.Kind, n)
		}
		passes(t, "full", m)
	}
}

// TestNoLists: a list that is none is an empty one.
func TestNoLists(t *testing.T) {
	encoded(t, "KUp", Msg{Kind: KUp, Inputs: []int{}}, bytesOf(Msg{Kind: KUp}))
	encoded(t, "KChunk", Msg{Kind: KChunk, Total: 1, Data: []byte{}}, bytesOf(Msg{Kind: KChunk, Total: 1}))
	down := Msg{Kind: KDown, Stage: 2, Stream: []api.Record{}, Seats: [api.Seats][]int{{}, nil, {}, nil}}
	encoded(t, "KDown", down, bytesOf(Msg{Kind: KDown, Stage: 2}))
}

// TestExample is the chapter's.
func TestExample(t *testing.T) {
	encoded(t, "example", Msg{Kind: KJoin, Transfer: 7, Watch: true}, []byte{1, 0, 0, 0, 7, 1})
}

// P1501: kinds.

// TestKinds: there are those of 1 to 4; of others nothing else is asked.
func TestKinds(t *testing.T) {
	if KJoin != 1 || KUp != 2 || KDown != 3 || KChunk != 4 {
		t.Error("kinds")
	}
	for _, kind := range []int{0, -1, 5, 6, 255, 256, 257, 260, -255, 1 << 32, 1<<32 + 1, math.MinInt, math.MinInt + 1, math.MaxInt} {
		refused(t, "no such kind", Msg{Kind: kind}, api.ErrKind)
		for _, x := range samples() {
			x.is.Kind = kind
			refused(t, "no such kind", x.is, api.ErrKind)
			for _, f := range fields() {
				f.spoil(&x.is)
			}
			refused(t, "no such kind, and fields that may not be", x.is, api.ErrKind)
		}
	}
}

// TestKindsOfBytes: each first byte, ahead of nothing, and of what is behind that of each sample.
func TestKindsOfBytes(t *testing.T) {
	unparsed(t, "no byte", nil, api.ErrCut)
	unparsed(t, "no byte", []byte{}, api.ErrCut)
	for kind := range 256 {
		if kind >= 1 && kind <= 4 {
			unparsed(t, "a kind alone", []byte{byte(kind)}, api.ErrCut)
			continue
		}
		unparsed(t, "no such kind", []byte{byte(kind)}, api.ErrKind)
		for _, x := range samples() {
			unparsed(t, "no such kind", turned(x.bytes, 0, byte(kind)), api.ErrKind)
		}
	}
}

// P1501: what fields may be.

// TestNumbers: each field that is a number, at its bounds and beyond.
func TestNumbers(t *testing.T) {
	seen := 0
	for _, x := range samples() {
		for i := range numbersOf(&x.is) {
			m := twin(x.is)
			at := numbersOf(&m)[i]
			for _, n := range []int{0, 1, 255, 256, 1<<24 - 1, 1 << 24, 1<<30 - 2, 1<<30 - 1} {
				*at = n
				passes(t, "a number", m)
			}
			for _, n := range []int{1 << 30, -1, 1<<31 - 1, 1 << 31, 1<<32 - 1, 1 << 32, 1<<32 + 5, 1 << 40, -1 << 30, -1 << 32, 1 << 62, math.MaxInt, math.MinInt} {
				*at = n
				refused(t, "the number "+strconv.Itoa(i)+" is "+strconv.Itoa(n), m, api.ErrArg)
			}
			seen++
		}
	}
	if seen != 2*1+2*9+3*9+3+2*3 {
		t.Errorf("%d numbers", seen)
	}
}

// TestNumbersOfBytes: a number whose bytes say 2^30 or more, wherever it stands.
func TestNumbersOfBytes(t *testing.T) {
	for _, x := range samples() {
		for i := range numbersOf(&x.is) {
			m := twin(x.is)
			*numbersOf(&m)[i] = 0x2A2B2C2D
			b := bytesOf(m)
			at := bytes.Index(b, []byte{0x2A, 0x2B, 0x2C, 0x2D})
			for _, high := range []byte{0x40, 0x41, 0x7F, 0x80, 0xC0, 0xFF} {
				b[at] = high
				unparsed(t, "a number", b, api.ErrBad)
				unparsed(t, "a number and no more", b[:at+4], api.ErrBad)
				unparsed(t, "a number cut off", b[:at+3], api.ErrCut)
			}
			b[at] = 0x3F
			*numbersOf(&m)[i] = 0x3F2B2C2D
			parsed(t, "a number", b, m)
		}
	}
}

// TestInputs: each input, in each row and in records.
func TestInputs(t *testing.T) {
	seen := 0
	for _, x := range samples() {
		for i := range inputsOf(&x.is) {
			m := twin(x.is)
			at := inputsOf(&m)[i]
			for n := range 11 {
				*at = n
				passes(t, "an input", m)
			}
			for _, n := range []int{11, 12, -1, -10, 255, 256, 266, 1 << 32, 1<<32 + 1, math.MaxInt, math.MinInt} {
				*at = n
				refused(t, "the input "+strconv.Itoa(n), m, api.ErrArg)
			}
			seen++
		}
	}
	if seen != 3+6+2 {
		t.Errorf("%d inputs", seen)
	}
}

// TestRows: 0 to 255 inputs, in each place where a row stands.
func TestRows(t *testing.T) {
	rows := []func(l []int) Msg{
		func(l []int) Msg { return Msg{Kind: KUp, Inputs: l} },
		func(l []int) Msg { return Msg{Kind: KDown, Stage: 1, Seats: [api.Seats][]int{l, nil, {1}, nil}} },
		func(l []int) Msg { return Msg{Kind: KDown, Stage: 1, Seats: [api.Seats][]int{{2}, l, nil, {3}}} },
		func(l []int) Msg { return Msg{Kind: KDown, Stage: 1, Seats: [api.Seats][]int{{4, 5}, {6}, l, nil}} },
		func(l []int) Msg { return Msg{Kind: KDown, Stage: 1, Seats: [api.Seats][]int{nil, {7, 8, 9}, nil, l}} },
	}
	for _, of := range rows {
		for n := range 256 {
			l := make([]int, n)
			for i := range l {
				l[i] = (i + n) % 11
			}
			passes(t, "a row", of(l))
		}
		for _, n := range []int{256, 257, 300, 511, 512, 1 << 16, 1<<16 + 1} {
			refused(t, "a row of "+strconv.Itoa(n), of(make([]int, n)), api.ErrArg)
		}
		for _, n := range []int{1, 2, 255} {
			for _, at := range []int{0, n / 2, n - 1} {
				l := make([]int, n)
				l[at] = 11
				refused(t, "an input of a row", of(l), api.ErrArg)
				l[at] = -1
				refused(t, "an input of a row", of(l), api.ErrArg)
			}
		}
	}
}

// TestBits: they may be any.
func TestBits(t *testing.T) {
	m := upwards()[3].is
	for bit := range 32 {
		for _, bits := range []uint32{1 << bit, ^(1 << bit), 1<<bit - 1, ^uint32(0) << bit} {
			m.Bits = bits
			passes(t, "bits", m)
		}
	}
}

func TestWatch(t *testing.T) {
	for c := range 256 {
		b := []byte{1, 0, 0, 0, 7, byte(c)}
		if c < 2 {
			passes(t, "Watch", Msg{Kind: KJoin, Transfer: 7, Watch: c == 1})
			parsed(t, "Watch", b, Msg{Kind: KJoin, Transfer: 7, Watch: c == 1})
			continue
		}
		unparsed(t, "Watch", b, api.ErrBad)
		unparsed(t, "Watch, and more", append(b, 0), api.ErrBad)
	}
}

// TestStages: SAsks to SLate.
func TestStages(t *testing.T) {
	for _, x := range downwards()[:3] {
		m := x.is
		for stage := api.SAsks; stage <= api.SLate; stage++ {
			m.Stage = stage
			passes(t, "a stage", m)
		}
		for _, stage := range []int{api.SLobby, -1, 8, 9, 255, 256, 257, 1<<32 + 1, math.MaxInt, math.MinInt} {
			m.Stage = stage
			refused(t, "stage "+strconv.Itoa(stage), m, api.ErrArg)
		}
		for stage := range 256 {
			if stage == 0 || stage > 7 {
				unparsed(t, "a stage", turned(x.bytes, 9, byte(stage)), api.ErrBad)
				unparsed(t, "a stage, and no more", turned(x.bytes, 9, byte(stage))[:10], api.ErrBad)
			}
		}
	}
}

// TestSeats: -1 to 3; its byte is 4 for -1.
func TestSeats(t *testing.T) {
	for _, x := range downwards()[:3] {
		m := x.is
		for seat, want := range map[int]byte{-1: 4, 0: 0, 1: 1, 2: 2, 3: 3} {
			m.Seat = seat
			encoded(t, "a seat", m, turned(x.bytes, 10, want))
			parsed(t, "a seat", turned(x.bytes, 10, want), m)
		}
		for _, seat := range []int{4, -2, 5, -3, -4, -5, 255, 256, -256, 252, 1 << 32, 1<<32 - 1, math.MaxInt, math.MinInt} {
			m.Seat = seat
			refused(t, "seat "+strconv.Itoa(seat), m, api.ErrArg)
		}
		for seat := 5; seat < 256; seat++ {
			unparsed(t, "a seat", turned(x.bytes, 10, byte(seat)), api.ErrBad)
			unparsed(t, "a seat, and no more", turned(x.bytes, 10, byte(seat))[:11], api.ErrBad)
		}
	}
}

// TestTotals: Total is 1 to MaxChunks, Index below it.
func TestTotals(t *testing.T) {
	for total := -3; total < 300; total++ {
		for _, index := range []int{-256, -2, -1, 0, 1, 2, total - 2, total - 1, total, total + 1, 14, 15, 16, 17, 255, 256, 257, 512, 1 << 32, math.MaxInt, math.MaxInt - 1, math.MinInt} {
			m := Msg{Kind: KChunk, Epoch: 1, Index: index, Total: total, Data: []byte("b")}
			if total >= 1 && total <= 16 && index >= 0 && index < total {
				passes(t, "a piece", m)
				continue
			}
			refused(t, "piece "+strconv.Itoa(index)+" of "+strconv.Itoa(total), m, api.ErrArg)
		}
	}
	for _, total := range []int{math.MaxInt, math.MinInt, 1 << 32, 1<<32 + 1, 256 + 16} {
		refused(t, "a piece of "+strconv.Itoa(total), Msg{Kind: KChunk, Total: total}, api.ErrArg)
	}
}

// TestTotalsOfBytes: each Index with each Total, with Data behind and without; an Index alone is not asked.
func TestTotalsOfBytes(t *testing.T) {
	head := "\x04" + string(make([]byte, 12))
	for index := range 256 {
		unparsed(t, "an Index alone", []byte(head+string([]byte{byte(index)})), api.ErrCut)
		for total := range 256 {
			b := []byte(head + string([]byte{byte(index), byte(total), 1, 'b'}))
			if total >= 1 && total <= 16 && index < total {
				parsed(t, "a piece", b, Msg{Kind: KChunk, Index: index, Total: total, Data: []byte("b")})
				unparsed(t, "a piece cut off", b[:15], api.ErrCut)
				continue
			}
			unparsed(t, "a piece", b, api.ErrBad)
			unparsed(t, "a piece cut off", b[:15], api.ErrBad)
		}
	}
}

// TestData: 0 to ChunkSize bytes, which may be any.
func TestData(t *testing.T) {
	for n := range 256 {
		data := make([]byte, n)
		for i := range data {
			data[i] = byte(n*7 + i*37)
		}
		m := Msg{Kind: KChunk, Transfer: 3, Total: 2, Index: 1, Data: data}
		if n <= 64 {
			passes(t, "data", m)
			continue
		}
		refused(t, "data", m, api.ErrArg)
		unparsed(t, "data", bytesOf(m), api.ErrBad)
		unparsed(t, "data, and no more", bytesOf(m)[:16], api.ErrBad)
	}
	for _, n := range []int{256, 257, 320, 1 << 16, 1<<16 + 1} {
		refused(t, "data", Msg{Kind: KChunk, Total: 1, Data: make([]byte, n)}, api.ErrArg)
	}
	for c := range 256 {
		passes(t, "data", Msg{Kind: KChunk, Total: 1, Data: []byte{byte(c)}})
	}
}

// P1501: records.

func TestHowManyRecords(t *testing.T) {
	kinds := []api.Record{{Kind: api.RInput, Input: 4}, {Kind: api.RSeat, Seat: 2, Frame: 3}, {Kind: api.RRetire, Seat: 1, Frame: 5, Last: 6}}
	for _, n := range []int{0, 1, 2, 3, 255, 256, 257, 399, 400} {
		for turn := range 3 {
			var l []api.Record
			for i := range n {
				l = append(l, kinds[(i+turn)%3])
			}
			passes(t, "records", Msg{Kind: KDown, Stage: 1, Stream: l, Ack: 7})
		}
	}
	for _, n := range []int{401, 402, 511, 512, 800, 1<<16 - 1, 1 << 16, 1<<16 + 1} {
		m := Msg{Kind: KDown, Stage: 1, Stream: slices.Repeat(kinds, n)[:n]}
		refused(t, strconv.Itoa(n)+" records", m, api.ErrArg)
		if n < 1<<16 {
			unparsed(t, strconv.Itoa(n)+" records", bytesOf(m), api.ErrBad)
			unparsed(t, strconv.Itoa(n)+" records, and no more", bytesOf(m)[:21], api.ErrBad)
			unparsed(t, "half of how many records", bytesOf(m)[:20], api.ErrCut)
		}
	}
}

// with is a datagram with a record between others.
func with(x api.Record) Msg {
	return Msg{Kind: KDown, Stage: 1, Stream: []api.Record{{Kind: api.RInput, Input: 4}, x, {Kind: api.RSeat, Frame: 8}}}
}

// TestRecordsRefused: each field of each kind beyond its bounds, and kinds that there are not.
func TestRecordsRefused(t *testing.T) {
	wrong := []int{-1, 1 << 30, 1 << 32, math.MinInt, math.MaxInt}
	var l []api.Record
	for _, n := range []int{0, -1, 4, 5, 255, 256, 257, 1<<32 + 1, math.MinInt, math.MaxInt} {
		l = append(l, api.Record{Kind: n}, api.Record{Kind: n, Input: 1, Seat: 1, Frame: 1, Last: 1})
	}
	for _, n := range append(wrong, 11, 256) {
		l = append(l, api.Record{Kind: api.RInput, Input: n})
	}
	for _, kind := range []int{api.RSeat, api.RRetire} {
		for _, n := range append(wrong, 4, 255, 256) {
			l = append(l, api.Record{Kind: kind, Seat: n, Frame: 1, Last: 1})
		}
		for _, n := range wrong {
			l = append(l, api.Record{Kind: kind, Seat: 1, Frame: n, Last: 1})
		}
	}
	for _, n := range wrong {
		l = append(l, api.Record{Kind: api.RRetire, Seat: 1, Frame: 1, Last: n})
	}
	for _, x := range l {
		refused(t, "a record", with(x), api.ErrArg)
		refused(t, "a record alone", Msg{Kind: KDown, Stage: 1, Stream: []api.Record{x}}, api.ErrArg)
		m := Msg{Kind: KDown, Stage: 1, Stream: slices.Repeat([]api.Record{{Kind: api.RInput}}, 400)}
		m.Stream[399] = x
		refused(t, "the last record", m, api.ErrArg)
	}
}

// TestRecordsAtBounds: each field of each kind at its bounds.
func TestRecordsAtBounds(t *testing.T) {
	for input := range 11 {
		passes(t, "RInput", with(api.Record{Kind: api.RInput, Input: input}))
	}
	for seat := range 4 {
		for _, frame := range []int{0, 1, 1<<30 - 1} {
			passes(t, "RSeat", with(api.Record{Kind: api.RSeat, Seat: seat, Frame: frame}))
			for _, last := range []int{0, 1, 1<<30 - 1} {
				passes(t, "RRetire", with(api.Record{Kind: api.RRetire, Seat: seat, Frame: frame, Last: last}))
			}
		}
	}
}

// TestRecordsNotAsked: fields that a record's kind does not name may be any, are not told, and are zero in what is parsed.
func TestRecordsNotAsked(t *testing.T) {
	for _, n := range []int{-1, 1, 88, 1 << 30, math.MinInt, math.MaxInt} {
		for _, x := range []struct{ is, plain api.Record }{
			{api.Record{Kind: api.RInput, Input: 3, Seat: n, Frame: n, Last: n}, api.Record{Kind: api.RInput, Input: 3}},
			{api.Record{Kind: api.RSeat, Seat: 2, Frame: 9, Input: n, Last: n}, api.Record{Kind: api.RSeat, Seat: 2, Frame: 9}},
			{api.Record{Kind: api.RRetire, Seat: 1, Frame: 8, Last: 7, Input: n}, api.Record{Kind: api.RRetire, Seat: 1, Frame: 8, Last: 7}},
		} {
			b := bytesOf(with(x.plain))
			encoded(t, "a record", with(x.is), b)
			parsed(t, "a record", b, with(x.plain))
			alike(t, "P1503: a record", with(x.is), with(x.plain), true)
		}
	}
}

// TestRecordsOfBytes: kinds, inputs and seats of records, whatever their byte is, and whatever is behind.
func TestRecordsOfBytes(t *testing.T) {
	head := string(bytesOf(Msg{Kind: KDown, Stage: 1})[:19]) + "\x00\x01"
	behind := string(make([]byte, 24))
	for c := range 256 {
		kind := head + string([]byte{byte(c)})
		switch {
		case c >= 1 && c <= 3:
			unparsed(t, "a kind of a record", []byte(kind), api.ErrCut)
		default:
			unparsed(t, "a kind of a record", []byte(kind), api.ErrBad)
			unparsed(t, "a kind of a record, and more", []byte(kind+behind), api.ErrBad)
		}
		for kind, most := range map[string]int{"\x01": 10, "\x02": 3, "\x03": 3} {
			b := []byte(head + kind + string([]byte{byte(c)}))
			if c > most {
				unparsed(t, "a record", b, api.ErrBad)
				unparsed(t, "a record, and more", append(b, behind...), api.ErrBad)
				continue
			}
			unparsed(t, "a record cut off", b, api.ErrCut)
		}
	}
}

// P1501: fields that a row does not name.

// TestNotAsked: they may be any, one by one and all at once, and are zero in what is parsed.
func TestNotAsked(t *testing.T) {
	for _, x := range samples() {
		all := twin(x.is)
		for _, f := range fields() {
			if slices.Contains(f.kinds, x.is.Kind) {
				continue
			}
			m := twin(x.is)
			f.spoil(&m)
			encoded(t, f.name, m, []byte(x.bytes))
			f.spoil(&all)
		}
		encoded(t, "all others", all, []byte(x.bytes))
		alike(t, "P1503: all others", all, x.is, true)
	}
}

// TestAsked: each that it names.
func TestAsked(t *testing.T) {
	for _, x := range samples() {
		for _, f := range fields() {
			m := twin(x.is)
			f.spoil(&m)
			switch {
			case !slices.Contains(f.kinds, x.is.Kind):
			case f.any:
				passes(t, f.name, m)
			default:
				refused(t, f.name, m, api.ErrArg)
			}
		}
	}
}

// P1501: bytes that are cut off, or have more behind, or say what may not be.

func TestCut(t *testing.T) {
	for _, x := range samples() {
		for n := range x.bytes {
			unparsed(t, "cut off", []byte(x.bytes)[:n], api.ErrCut)
		}
	}
	for _, m := range full() {
		b := bytesOf(m)
		for n := range b {
			unparsed(t, "cut off", b[:n], api.ErrCut)
		}
	}
}

func TestMore(t *testing.T) {
	for _, x := range samples() {
		for c := range 256 {
			unparsed(t, "a byte behind", append([]byte(x.bytes), byte(c)), api.ErrMore)
		}
		for _, n := range []int{2, 4, 64, 255, 256, 1 << 16} {
			unparsed(t, "more behind", append([]byte(x.bytes), make([]byte, n)...), api.ErrMore)
		}
		unparsed(t, "twice", []byte(x.bytes+x.bytes), api.ErrMore)
	}
	for _, m := range full() {
		unparsed(t, "more behind", append(bytesOf(m), 1), api.ErrMore)
	}
}

// TestFirstOfSeveral: in the order of bytes: what is cut off or wrong further on does not count.
func TestFirstOfSeveral(t *testing.T) {
	number := "\x00\x00\x00\x01"
	bad := "\x40\x00\x00\x00"
	down := number + number
	for _, x := range []struct {
		what, bytes string
		want        api.Errno
	}{
		{"a kind, then no more", "\x05", api.ErrKind},
		{"a kind, then a number", "\x00" + bad, api.ErrKind},
		{"a number, then no more", "\x01" + bad, api.ErrBad},
		{"a number cut off that would be wrong", "\x01" + bad[:3], api.ErrCut},
		{"a number, then Watch", "\x01" + bad + "\x02", api.ErrBad},
		{"Watch, then more", "\x01" + number + "\x02\x00", api.ErrBad},
		{"Epoch, then no more", "\x02" + bad, api.ErrBad},
		{"Transfer, then no more", "\x02" + number + bad, api.ErrBad},
		{"Bits cut off", "\x02" + number + number + "\xFF\xFF\xFF", api.ErrCut},
		{"Records, then no more", "\x02" + number + number + "\xFF\xFF\xFF\xFF" + bad, api.ErrBad},
		{"an input, then a row cut off", "\x02" + string(make([]byte, 40)) + "\xFF\x0B", api.ErrBad},
		{"a row cut off, no input wrong", "\x02" + string(make([]byte, 40)) + "\xFF\x0A", api.ErrCut},
		{"an input, then more", "\x02" + string(make([]byte, 40)) + "\x01\x0B\x00", api.ErrBad},
		{"a stage, then no more", "\x03" + down + "\x00", api.ErrBad},
		{"a stage, then a seat", "\x03" + down + "\x08\x05", api.ErrBad},
		{"a seat, then no more", "\x03" + down + "\x01\x05", api.ErrBad},
		{"how many records, then no more", "\x03" + down + "\x01\x00" + down + "\x01\x91", api.ErrBad},
		{"half of how many", "\x03" + down + "\x01\x00" + down + "\xFF", api.ErrCut},
		{"400 records, none there", "\x03" + down + "\x01\x00" + down + "\x01\x90", api.ErrCut},
		{"a record, then none", "\x03" + down + "\x01\x00" + down + "\x01\x90\x04", api.ErrBad},
		{"a record's frame cut off", "\x03" + down + "\x01\x00" + down + "\x01\x90\x02\x03\x40", api.ErrCut},
		{"a record's frame", "\x03" + down + "\x01\x00" + down + "\x01\x90\x02\x03" + bad, api.ErrBad},
		{"a record's seat, then its frame", "\x03" + down + "\x01\x00" + down + "\x01\x90\x03\x04", api.ErrBad},
		{"a record's last", "\x03" + down + "\x01\x00" + down + "\x01\x90\x03\x03" + number + bad, api.ErrBad},
		{"an Index, no Total", "\x04" + number + number + number + "\xFF", api.ErrCut},
		{"an Index, then its Total", "\x04" + number + number + number + "\x03\x03", api.ErrBad},
		{"a Total, then Data", "\x04" + number + number + number + "\x00\x11\x41", api.ErrBad},
		{"Data's size, then no more", "\x04" + number + number + number + "\x00\x10\x41", api.ErrBad},
		{"Data cut off", "\x04" + number + number + number + "\x00\x10\x40a", api.ErrCut},
	} {
		unparsed(t, x.what, []byte(x.bytes), x.want)
	}
}

// P2.

// TestApart: bytes and datagrams that were told are nobody else's.
func TestApart(t *testing.T) {
	for _, x := range samples() {
		in := twin(x.is)
		first, _ := Encode(in)
		second, _ := Encode(in)
		scrawl(second, 0x5B)
		if !equal(in, x.is) || string(first) != x.bytes {
			t.Error("P2: bytes that Encode gave are the datagram's, or other bytes")
		}
		scrawlAll(in)
		if string(first) != x.bytes {
			t.Error("P2: bytes that Encode gave changed with the datagram")
		}
		b, all := roomy([]byte(x.bytes), 0x5B)
		was := slices.Clone(all)
		one, _ := Parse(b)
		two, _ := Parse(b)
		scrawlAll(two)
		if !equal(one, x.is) || !bytes.Equal(all, was) {
			t.Error("P2: a datagram that Parse gave is that of other bytes, or the bytes'")
		}
		scrawl(all, 0xFF)
		if !equal(one, x.is) {
			t.Error("P2: a datagram that Parse gave changed with the bytes")
		}
	}
}

// TestListsApart: no two lists of a datagram that was told share anything, their spare room neither.
func TestListsApart(t *testing.T) {
	for _, want := range append(full(), downwards()[1].is, upwards()[3].is) {
		for i := range scrawls(want) {
			m, _ := Parse(bytesOf(want))
			other := twin(want)
			scrawls(m)[i]()
			scrawls(other)[i]()
			if !equal(m, other) {
				t.Errorf("P2: kind %d: two lists share something", want.Kind)
			}
		}
	}
}

// P1502.

// alike holds what Same answers against what it must, from both sides, whenever it is asked, and that both stay as they were.
func alike(t *testing.T, what string, a, b Msg, want bool) {
	t.Helper()
	x, xStays := spacious(a)
	y, yStays := spacious(b)
	for range 2 {
		if Same(x, y) != want || Same(y, x) != want {
			t.Errorf("P1502: %s: not %v: %+v, %+v", what, want, a, b)
		}
		if !Same(x, x) || !Same(y, y) {
			t.Errorf("P1502: %s: not the same as it is: %+v, %+v", what, a, b)
		}
	}
	if !xStays() || !yStays() {
		t.Errorf("P2: %s: Same changed a datagram", what)
	}
}

// TestSameAsIt: with lists of its own, and with empty lists where there are none.
func TestSameAsIt(t *testing.T) {
	for _, x := range samples() {
		alike(t, "itself", x.is, twin(x.is), true)
		m := twin(x.is)
		m.Inputs, m.Stream, m.Data = append([]int{}, m.Inputs...), append([]api.Record{}, m.Stream...), append([]byte{}, m.Data...)
		for seat := range m.Seats {
			m.Seats[seat] = append([]int{}, m.Seats[seat]...)
		}
		alike(t, "empty lists", x.is, m, true)
	}
}

// TestSameByFields: one field is another one: of its row, or not.
func TestSameByFields(t *testing.T) {
	for _, x := range samples() {
		for _, f := range fields() {
			m := twin(x.is)
			f.spoil(&m)
			alike(t, f.name, x.is, m, !slices.Contains(f.kinds, x.is.Kind))
		}
	}
}

// TestSameByNumbers: each number, each input of its row is another one, whether it may be or not.
func TestSameByNumbers(t *testing.T) {
	for _, x := range samples() {
		for i := range numbersOf(&x.is) {
			for _, by := range []int{1, -1, 256, 1 << 24, 1 << 30, 1 << 32, 1 << 40, math.MinInt} {
				m := twin(x.is)
				*numbersOf(&m)[i] += by
				alike(t, "a number", x.is, m, false)
			}
		}
		for i := range inputsOf(&x.is) {
			for _, by := range []int{1, -1, 11, 256, 1 << 32, math.MinInt} {
				m := twin(x.is)
				*inputsOf(&m)[i] += by
				alike(t, "an input", x.is, m, false)
			}
		}
	}
}

// TestSameByLists: lists of other lengths, also where what is behind them makes up for it.
func TestSameByLists(t *testing.T) {
	up, down, chunk := upwards()[3].is, downwards()[1].is, downwards()[4].is
	for _, l := range [][]int{nil, {0}, {0, 10}, {10, 3}, {0, 3, 10}, {0, 10, 3, 0}, {0, 10, 3, 3}} {
		m := twin(up)
		m.Inputs = l
		alike(t, "Inputs", up, m, false)
	}
	for _, l := range [][4][]int{{}, {{5}, nil, {6, 7}, {1, 2, 4}}, {nil, {5, 6}, {7}, {1, 2, 4}}, {nil, {5}, {6}, {7, 1, 2, 4}}, {nil, {5}, {6, 7}, {1, 2}}, {nil, {5}, {7, 6}, {1, 2, 4}}} {
		m := twin(down)
		m.Seats = l
		alike(t, "Seats", down, m, false)
	}
	for _, l := range [][]api.Record{nil, down.Stream[1:], down.Stream[:3], append(slices.Clone(down.Stream), api.Record{Kind: api.RInput}), append(slices.Clone(down.Stream[1:]), down.Stream[0])} {
		m := twin(down)
		m.Stream = l
		alike(t, "Stream", down, m, false)
	}
	for _, l := range []string{"", "a", "a\xFF", "\xFF\x00", "a\x00\xFF", "a\xFF\x00\x00", "a\xFF\x01", "A\xFF\x00"} {
		m := twin(chunk)
		m.Data = []byte(l)
		alike(t, "Data", chunk, m, false)
	}
}

// TestSameByRecords: what the record's kind names counts, nothing else; of no such kind the kind alone.
func TestSameByRecords(t *testing.T) {
	for kind := -1; kind <= 5; kind++ {
		x := api.Record{Kind: kind, Input: 1, Seat: 2, Frame: 3, Last: 4}
		for name, y := range map[string]api.Record{
			"Kind":  {Kind: kind + 1, Input: 1, Seat: 2, Frame: 3, Last: 4},
			"Input": {Kind: kind, Input: 5, Seat: 2, Frame: 3, Last: 4},
			"Seat":  {Kind: kind, Input: 1, Seat: 3, Frame: 3, Last: 4},
			"Frame": {Kind: kind, Input: 1, Seat: 2, Frame: 1 << 40, Last: 4},
			"Last":  {Kind: kind, Input: 1, Seat: 2, Frame: 3, Last: -4},
		} {
			names := map[int][]string{api.RInput: {"Input"}, api.RSeat: {"Seat", "Frame"}, api.RRetire: {"Seat", "Frame", "Last"}}[kind]
			alike(t, "kind "+strconv.Itoa(kind)+", "+name, with(x), with(y), name != "Kind" && !slices.Contains(names, name))
		}
	}
}

// TestSameByKinds: two kinds are never the same; of no such kind nothing else counts.
func TestSameByKinds(t *testing.T) {
	for _, x := range samples() {
		for _, y := range samples() {
			if x.is.Kind != y.is.Kind {
				alike(t, "two kinds", x.is, y.is, false)
			}
		}
		for kind := -2; kind <= 7; kind++ {
			m := twin(x.is)
			m.Kind = kind
			alike(t, "another kind", x.is, m, kind == x.is.Kind)
		}
	}
	none := []int{0, -1, 5, 256, 257, 1<<32 + 1, math.MinInt, math.MaxInt}
	for _, kind := range none {
		for _, other := range none {
			a, b := full()[2], Msg{Kind: other}
			a.Kind = kind
			alike(t, "no such kind", a, b, kind == other)
		}
	}
}

// TestSameOutOfBounds: what may not be is the same as itself, and not as what its byte would be.
func TestSameOutOfBounds(t *testing.T) {
	down := downwards()[1].is
	seats := []int{-257, -2, -1, 0, 3, 4, 5, 251, 255, 260}
	for _, a := range seats {
		for _, b := range seats {
			x, y := twin(down), twin(down)
			x.Seat, y.Seat = a, b
			alike(t, "seats "+strconv.Itoa(a)+", "+strconv.Itoa(b), x, y, a == b)
		}
	}
	places := []int{-1, 0, 16, 255, 256, math.MaxInt, math.MinInt}
	for _, a := range places {
		for _, b := range places {
			x, y := Msg{Kind: KChunk, Index: a, Total: b}, Msg{Kind: KChunk, Index: b, Total: a}
			alike(t, "a piece", x, y, a == b)
		}
	}
	for _, n := range []int{256, 401, 1 << 16} {
		x := Msg{Kind: KUp, Inputs: make([]int, n)}
		alike(t, "long rows", x, Msg{Kind: KUp}, false)
		y := twin(x)
		alike(t, "long rows", x, y, true)
		y.Inputs[n-1] = 1
		alike(t, "long rows", x, y, false)
		long := Msg{Kind: KDown, Stream: make([]api.Record, n)}
		other := twin(long)
		other.Stream[n-1].Kind = 1
		alike(t, "many records", long, other, false)
	}
}
