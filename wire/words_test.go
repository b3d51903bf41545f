package wire

import (
	"bytes"
	"encoding/binary"
	"math"
	"math/rand/v2"
	"slices"
	"strconv"
	"testing"

	"adit/api"
)

// What P1501 to P1503 say, gone through in the plainest way.

// field is one of a datagram's: which kinds name it, and how it becomes another one, which may not be (any: which may be).
type field struct {
	name  string
	kinds []int
	any   bool
	spoil func(m *Msg)
}

func fields() []field {
	up, down, chunk := []int{KUp}, []int{KDown}, []int{KChunk}
	l := []field{
		{"Epoch", []int{KUp, KDown, KChunk}, false, func(m *Msg) { m.Epoch = -1 }},
		{"Transfer", []int{KJoin, KUp, KDown, KChunk}, false, func(m *Msg) { m.Transfer = 1 << 30 }},
		{"Watch", []int{KJoin}, true, func(m *Msg) { m.Watch = !m.Watch }},
		{"Bits", up, true, func(m *Msg) { m.Bits ^= 1 << 31 }},
		{"Records", up, false, func(m *Msg) { m.Records = -2 }},
		{"Live", up, false, func(m *Msg) { m.Live = 1 << 31 }},
		{"First", up, false, func(m *Msg) { m.First = 1 << 33 }},
		{"Inputs", up, false, func(m *Msg) { m.Inputs = append(slices.Clone(m.Inputs), 11) }},
		{"Stage", down, false, func(m *Msg) { m.Stage = 8 }},
		{"Seat", down, false, func(m *Msg) { m.Seat = 4 }},
		{"Base", []int{KDown, KChunk}, false, func(m *Msg) { m.Base = -1 }},
		{"From", down, false, func(m *Msg) { m.From = math.MaxInt }},
		{"Stream", down, false, func(m *Msg) { m.Stream = append(slices.Clone(m.Stream), api.Record{Kind: 4}) }},
		{"Ack", down, false, func(m *Msg) { m.Ack = -7 }},
		{"Index", chunk, false, func(m *Msg) { m.Index = 16 }},
		{"Total", chunk, false, func(m *Msg) { m.Total = 17 }},
		{"Data", chunk, false, func(m *Msg) { m.Data = make([]byte, 65) }},
	}
	for seat := range api.Seats {
		of := " of seat " + strconv.Itoa(seat)
		l = append(l,
			field{"Heard" + of, up, false, func(m *Msg) { m.Heard[seat] = -1 }},
			field{"Firsts" + of, down, false, func(m *Msg) { m.Firsts[seat] = 1 << 30 }},
			field{"Seats" + of, down, false, func(m *Msg) { m.Seats[seat] = append([]int{-1}, m.Seats[seat]...) }},
		)
	}
	return l
}

// numbersOf are all numbers that a datagram's row names.
func numbersOf(m *Msg) []*int {
	switch m.Kind {
	case KJoin:
		return []*int{&m.Transfer}
	case KUp:
		return []*int{&m.Epoch, &m.Transfer, &m.Records, &m.Heard[0], &m.Heard[1], &m.Heard[2], &m.Heard[3], &m.Live, &m.First}
	case KChunk:
		return []*int{&m.Epoch, &m.Transfer, &m.Base}
	}
	l := []*int{&m.Epoch, &m.Transfer, &m.Base, &m.From, &m.Firsts[0], &m.Firsts[1], &m.Firsts[2], &m.Firsts[3], &m.Ack}
	for i := range m.Stream {
		if m.Stream[i].Kind != api.RInput {
			l = append(l, &m.Stream[i].Frame)
		}
		if m.Stream[i].Kind == api.RRetire {
			l = append(l, &m.Stream[i].Last)
		}
	}
	return l
}

// inputsOf are all inputs that a datagram's row names.
func inputsOf(m *Msg) []*int {
	var l []*int
	if m.Kind == KUp {
		for i := range m.Inputs {
			l = append(l, &m.Inputs[i])
		}
	}
	if m.Kind != KDown {
		return l
	}
	for seat := range m.Seats {
		for i := range m.Seats[seat] {
			l = append(l, &m.Seats[seat][i])
		}
	}
	for i := range m.Stream {
		if m.Stream[i].Kind == api.RInput {
			l = append(l, &m.Stream[i].Input)
		}
	}
	return l
}

// bytesOf are the bytes of a datagram, if it may be.
func bytesOf(m Msg) []byte {
	b := []byte{byte(m.Kind)}
	numbers := func(l ...int) {
		for _, n := range l {
			b = binary.BigEndian.AppendUint32(b, uint32(n))
		}
	}
	row := func(l []int) {
		b = append(b, byte(len(l)))
		for _, n := range l {
			b = append(b, byte(n))
		}
	}
	switch m.Kind {
	case KJoin:
		numbers(m.Transfer)
		b = append(b, map[bool]byte{true: 1}[m.Watch])
	case KUp:
		numbers(m.Epoch, m.Transfer, int(m.Bits), m.Records)
		numbers(m.Heard[:]...)
		numbers(m.Live, m.First)
		row(m.Inputs)
	case KDown:
		numbers(m.Epoch, m.Transfer)
		b = append(b, byte(m.Stage), map[bool]byte{true: 4, false: byte(m.Seat)}[m.Seat == -1])
		numbers(m.Base, m.From)
		b = append(b, byte(len(m.Stream)>>8), byte(len(m.Stream)))
		for _, x := range m.Stream {
			b = append(b, recordBytes(x)...)
		}
		for seat := range api.Seats {
			numbers(m.Firsts[seat])
			row(m.Seats[seat])
		}
		numbers(m.Ack)
	case KChunk:
		numbers(m.Epoch, m.Transfer, m.Base)
		b = append(b, byte(m.Index), byte(m.Total), byte(len(m.Data)))
		b = append(b, m.Data...)
	}
	return b
}

func recordBytes(x api.Record) []byte {
	b := []byte{byte(x.Kind)}
	switch x.Kind {
	case api.RInput:
		return append(b, byte(x.Input))
	case api.RSeat:
		return binary.BigEndian.AppendUint32(append(b, byte(x.Seat)), uint32(x.Frame))
	}
	b = binary.BigEndian.AppendUint32(append(b, byte(x.Seat)), uint32(x.Frame))
	return binary.BigEndian.AppendUint32(b, uint32(x.Last))
}

// may tells what Encode must say of a datagram.
func may(m Msg) api.Errno {
	if m.Kind < 1 || m.Kind > 4 {
		return api.ErrKind
	}
	right := true
	for _, n := range numbersOf(&m) {
		right = right && *n >= 0 && *n < 1<<30
	}
	for _, n := range inputsOf(&m) {
		right = right && *n >= 0 && *n <= 10
	}
	switch m.Kind {
	case KUp:
		right = right && len(m.Inputs) <= 255
	case KDown:
		right = right && m.Stage >= 1 && m.Stage <= 7 && m.Seat >= -1 && m.Seat <= 3 && len(m.Stream) <= 400
		for _, x := range m.Stream {
			right = right && x.Kind >= 1 && x.Kind <= 3 && (x.Kind == api.RInput || x.Seat >= 0 && x.Seat <= 3)
		}
		for _, l := range m.Seats {
			right = right && len(l) <= 255
		}
	case KChunk:
		right = right && m.Total >= 1 && m.Total <= 16 && m.Index >= 0 && m.Index < m.Total && len(m.Data) <= 64
	}
	if !right {
		return api.ErrArg
	}
	return api.OK
}

// plain is a datagram with nothing but what its row names, and what its records' kinds do.
func plain(m Msg) Msg {
	out := Msg{Kind: m.Kind, Transfer: m.Transfer}
	if m.Kind == KJoin {
		out.Watch = m.Watch
		return out
	}
	out.Epoch = m.Epoch
	switch m.Kind {
	case KUp:
		out.Bits, out.Records, out.Heard, out.Live, out.First, out.Inputs = m.Bits, m.Records, m.Heard, m.Live, m.First, m.Inputs
	case KDown:
		out.Stage, out.Seat, out.Base, out.From, out.Firsts, out.Seats, out.Ack = m.Stage, m.Seat, m.Base, m.From, m.Firsts, m.Seats, m.Ack
		for _, x := range m.Stream {
			switch x.Kind {
			case api.RInput:
				x = api.Record{Kind: x.Kind, Input: x.Input}
			case api.RSeat:
				x.Input, x.Last = 0, 0
			case api.RRetire:
				x.Input = 0
			}
			out.Stream = append(out.Stream, x)
		}
	case KChunk:
		out.Base, out.Index, out.Total, out.Data = m.Base, m.Index, m.Total, m.Data
	}
	return out
}

// cursor goes through bytes, and panics with what is wrong with them.
type cursor struct {
	b  []byte
	at int
}

func (c *cursor) some(size, least, most int) int {
	if c.at+size > len(c.b) {
		panic(api.ErrCut)
	}
	n := 0
	for range size {
		n = 256*n + int(c.b[c.at])
		c.at++
	}
	if n < least || n > most {
		panic(api.ErrBad)
	}
	return n
}

func (c *cursor) number() int { return c.some(4, 0, 1<<30-1) }

func (c *cursor) row() (l []int) {
	for range c.some(1, 0, 255) {
		l = append(l, c.some(1, 0, 10))
	}
	return l
}

func (c *cursor) record() api.Record {
	switch kind := c.some(1, 1, 3); kind {
	case api.RInput:
		return api.Record{Kind: kind, Input: c.some(1, 0, 10)}
	case api.RSeat:
		return api.Record{Kind: kind, Seat: c.some(1, 0, 3), Frame: c.number()}
	default:
		return api.Record{Kind: kind, Seat: c.some(1, 0, 3), Frame: c.number(), Last: c.number()}
	}
}

func (c *cursor) datagram() (m Msg) {
	if m.Kind = c.some(1, 0, 255); m.Kind < 1 || m.Kind > 4 {
		panic(api.ErrKind)
	}
	if m.Kind != KJoin {
		m.Epoch = c.number()
	}
	m.Transfer = c.number()
	switch m.Kind {
	case KJoin:
		m.Watch = c.some(1, 0, 1) == 1
	case KUp:
		m.Bits, m.Records = uint32(c.some(4, 0, math.MaxUint32)), c.number()
		m.Heard = [api.Seats]int{c.number(), c.number(), c.number(), c.number()}
		m.Live, m.First, m.Inputs = c.number(), c.number(), c.row()
	case KDown:
		m.Stage, m.Seat, m.Base, m.From = c.some(1, 1, 7), c.some(1, 0, 4), c.number(), c.number()
		if m.Seat == 4 {
			m.Seat = -1
		}
		for range c.some(2, 0, 400) {
			m.Stream = append(m.Stream, c.record())
		}
		for seat := range api.Seats {
			m.Firsts[seat], m.Seats[seat] = c.number(), c.row()
		}
		m.Ack = c.number()
	case KChunk:
		m.Base, m.Index, m.Total = c.number(), c.some(1, 0, 255), c.some(1, 0, 255)
		if m.Total < 1 || m.Total > 16 || m.Index >= m.Total {
			panic(api.ErrBad)
		}
		for range c.some(1, 0, 64) {
			m.Data = append(m.Data, byte(c.some(1, 0, 255)))
		}
	}
	return m
}

// said is the datagram that bytes say, or what Parse must say of them.
func said(b []byte) (m Msg, err api.Errno) {
	defer func() {
		if wrong := recover(); wrong != nil {
			m, err = Msg{}, wrong.(api.Errno)
		}
	}()
	c := &cursor{b: b}
	m = c.datagram()
	if c.at < len(b) {
		panic(api.ErrMore)
	}
	return m, api.OK
}

// holds holds what Parse tells of bytes against the words; bytes that can be parsed are encoded as the same bytes (P1503).
func holds(t *testing.T, b []byte) api.Errno {
	t.Helper()
	want, err := said(b)
	if err != api.OK {
		unparsed(t, "bytes by chance", b, err)
		return err
	}
	parsed(t, "bytes by chance", b, want)
	m, _ := Parse(b)
	encoded(t, "P1503: parsed and encoded", m, b)
	return err
}

// P1501, P1503: each byte of each sample turned into each other one.
func TestTurned(t *testing.T) {
	n := map[api.Errno]int{}
	for _, x := range samples() {
		for at := range x.bytes {
			for c := range 256 {
				n[holds(t, turned(x.bytes, at, byte(c)))]++
			}
		}
	}
	for _, err := range []api.Errno{api.OK, api.ErrCut, api.ErrKind, api.ErrBad, api.ErrMore} {
		if n[err] < 10 {
			t.Errorf("%v: %d times only", err, n[err])
		}
	}
}

// P1501, P1503: bytes by chance: of samples, some turned, taken out or put in, cut off.
func TestBytesByChance(t *testing.T) {
	for seed := range uint64(20000) {
		r := rand.New(rand.NewPCG(seed, 1501))
		b := bytesOf(byChance(r, 0))
		for range r.IntN(4) {
			at := r.IntN(len(b))
			switch r.IntN(5) {
			case 0:
				b = b[:at+1]
			case 1:
				b = slices.Insert(b, at, byte(r.IntN(12)))
			case 2:
				b = slices.Insert(b, at, byte(r.Uint32()))
			case 3:
				b[at] = byte(r.Uint32())
			case 4:
				b[at] = byte(r.IntN(5))
			}
		}
		holds(t, b)
		if t.Failed() {
			t.Fatalf("seed %d", seed)
		}
	}
}

// P1501: bytes of nothing but chance.
func TestNoise(t *testing.T) {
	for seed := range uint64(20000) {
		r := rand.New(rand.NewPCG(seed, 1502))
		b := make([]byte, r.IntN(90))
		for i := range b {
			b[i] = byte(r.IntN([]int{2, 5, 11, 256}[r.IntN(4)]))
		}
		if len(b) > 0 {
			b[0] = byte(1 + r.IntN(4))
		}
		holds(t, b)
		if t.Failed() {
			t.Fatalf("seed %d", seed)
		}
	}
}

// one is a number by chance: most that may be, and of odds in 100 some that may not.
func one(r *rand.Rand, least, most, odds int) int {
	if r.IntN(100) < odds {
		return []int{least - 1, most + 1, -1, math.MinInt, math.MaxInt, most + 256, most + 1<<32}[r.IntN(7)]
	}
	return []int{least, most, least + r.IntN(most-least+1)}[r.IntN(3)]
}

// some are inputs by chance.
func some(r *rand.Rand, odds int) []int {
	l := make([]int, []int{0, 1, r.IntN(6), 255, 200}[r.IntN(5)])
	if r.IntN(100) < odds {
		l = make([]int, 256)
	}
	for i := range l {
		l[i] = one(r, 0, 10, odds/5)
	}
	return l
}

// byChance is a datagram by chance, all fields of which are filled; odds: how often, of 100, a field may not be.
func byChance(r *rand.Rand, odds int) Msg {
	number := func() int { return one(r, 0, 1<<30-1, odds) }
	m := Msg{Kind: one(r, 1, 4, odds), Epoch: number(), Transfer: number(), Watch: r.IntN(2) == 0, Bits: r.Uint32(), Records: number(), Live: number(), First: number()}
	m.Inputs, m.Stage, m.Seat, m.Base, m.From, m.Ack = some(r, odds), one(r, 1, 7, odds), one(r, -1, 3, odds), number(), number(), number()
	m.Total = one(r, 1, 16, odds)
	m.Index = one(r, 0, 15, odds)
	if m.Total > 0 && odds == 0 {
		m.Index %= m.Total
	}
	m.Data = make([]byte, min(one(r, 0, 64, odds)&127, 66))
	for i := range m.Data {
		m.Data[i] = byte(r.Uint32())
	}
	for seat := range m.Heard {
		m.Heard[seat], m.Firsts[seat], m.Seats[seat] = number(), number(), some(r, odds)
	}
	for range []int{0, 1, r.IntN(9), r.IntN(60)}[r.IntN(4)] {
		x := api.Record{Kind: one(r, 1, 3, odds/3), Input: r.IntN(11), Seat: r.IntN(4), Frame: one(r, 0, 1<<30-1, odds/3), Last: one(r, 0, 1<<30-1, odds/3)}
		m.Stream = append(m.Stream, x)
	}
	return m
}

// P1501 to P1503: datagrams by chance: what Encode says of them, and what was encoded is parsed as the same.
func TestDatagramsByChance(t *testing.T) {
	n := map[api.Errno]int{}
	for seed := range uint64(12000) {
		r := rand.New(rand.NewPCG(seed, 1503))
		m := byChance(r, []int{0, 3, 10}[seed%3])
		err := may(m)
		n[err]++
		if err != api.OK {
			refused(t, "by chance", m, err)
		} else {
			b := bytesOf(m)
			encoded(t, "by chance", m, b)
			parsed(t, "by chance", b, plain(m))
			again, _ := Parse(b)
			alike(t, "P1503: encoded and parsed", again, m, true)
		}
		if t.Failed() {
			t.Fatalf("seed %d", seed)
		}
	}
	for _, err := range []api.Errno{api.OK, api.ErrKind, api.ErrArg} {
		if n[err] < 300 {
			t.Errorf("%v: %d times only", err, n[err])
		}
	}
}

// P1502: datagrams by chance, of which one has some fields of the other: the same are those whose plain ones are equal, and whose bytes are, if they may be.
func TestSameByChance(t *testing.T) {
	n := map[bool]int{}
	for seed := range uint64(12000) {
		r := rand.New(rand.NewPCG(seed, 1504))
		a := byChance(r, 0)
		b := twin(a)
		other := byChance(r, 0)
		for range r.IntN(4) {
			switch r.IntN(9) {
			case 0:
				b.Epoch, b.Bits = other.Epoch, other.Bits
			case 1:
				b.Live, b.First, b.Inputs = other.Live, other.First, other.Inputs
			case 2:
				b.Heard = other.Heard
			case 3:
				b.Stage, b.Seat = other.Stage, other.Seat
			case 4:
				b.Stream = other.Stream
			case 5:
				b.Firsts, b.Ack = other.Firsts, other.Ack
			case 6:
				b.Seats = other.Seats
			case 7:
				b.Index, b.Total = other.Index, other.Total
			case 8:
				b.Data = other.Data
			}
		}
		want := equal(plain(a), plain(b))
		if want != bytes.Equal(bytesOf(a), bytesOf(b)) {
			t.Fatal("the test is wrong")
		}
		n[want]++
		alike(t, "by chance", a, b, want)
		if t.Failed() {
			t.Fatalf("seed %d", seed)
		}
	}
	if n[true] < 1000 || n[false] < 1000 {
		t.Errorf("the same: %d times, not: %d", n[true], n[false])
	}
}
