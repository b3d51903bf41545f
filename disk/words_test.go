package disk

import (
	"bytes"
	"math/rand/v2"
	"testing"

	"adit/api"
)

// What the words say, gone through in the plainest way: all that was done, one behind the other.

type note struct {
	n int
	b []byte
}

type model struct {
	sectors int
	done    []note
	said    int // how many were done when Cut was said
	cut     int
	gone    bool
}

func fresh(sectors int) *model { return &model{sectors: sectors, cut: -1} }

func (m *model) write(n int, b []byte) api.Errno {
	switch {
	case m.gone:
		return api.ErrDead
	case n < 0 || n > m.sectors-1 || len(b) != 64:
		return api.ErrArg
	case m.cut >= 0 && len(m.done)-m.said == m.cut:
		m.gone = true
		return api.ErrDead
	}
	m.done = append(m.done, note{n, append([]byte{}, b...)})
	return api.OK
}

func (m *model) read(n int) ([]byte, api.Errno) {
	if m.gone {
		return nil, api.ErrDead
	}
	if n < 0 || n > m.sectors-1 {
		return nil, api.ErrArg
	}
	return m.last(n), api.OK
}

// last is what a sector has: of the last write to it that was done.
func (m *model) last(n int) []byte {
	for i := len(m.done) - 1; i >= 0; i-- {
		if m.done[i].n == n {
			return m.done[i].b
		}
	}
	return make([]byte, 64)
}

func (m *model) cutAt(n int) { m.cut, m.said = n, len(m.done) }

func (m *model) start() { m.gone, m.cut = false, -1 }

// stays holds every sector of a disk whose power is there against the model.
func stays(t *testing.T, d *Disk, m *model) {
	t.Helper()
	for n := range m.sectors {
		if b, err := d.Read(n); err != api.OK || !bytes.Equal(b, m.last(n)) {
			t.Errorf("P1304: sector %d: %v, %v, not %v", n, b, err, m.last(n))
		}
	}
}

func chance(seed uint64) *rand.Rand { return rand.New(rand.NewPCG(seed, 13)) }

func bytesOf(r *rand.Rand, n int) []byte {
	b := make([]byte, n)
	for i := range b {
		b[i] = byte(r.Uint32())
	}
	return b
}

// size is mostly that of a sector.
func size(r *rand.Rand) int {
	if r.IntN(8) == 0 {
		return r.IntN(70)
	}
	return 64
}

// call makes one call by chance, of the disk, its twin and the model alike.
func call(t *testing.T, r *rand.Rand, d, twin *Disk, m *model) {
	t.Helper()
	n := r.IntN(m.sectors+2) - 1
	switch r.IntN(12) {
	case 0:
		cut := r.IntN(9) - 2
		d.Cut(cut)
		twin.Cut(cut)
		m.cutAt(cut)
	case 1:
		d.Start()
		twin.Start()
		m.start()
	case 2, 3, 4:
		want, must := m.read(n)
		b, err := d.Read(n)
		again, same := twin.Read(n)
		if err != must || !bytes.Equal(b, want) {
			t.Errorf("P1302: Read(%d): %v, %v, not %v, %v", n, b, err, want, must)
		}
		if same != err || !bytes.Equal(b, again) {
			t.Errorf("P3: Read(%d): %v, then %v", n, err, same)
		}
		scrawl(b)
	default:
		b := bytesOf(r, size(r))
		must := m.write(n, b)
		write(t, d, n, b, must)
		write(t, twin, n, b, must)
		scrawl(b)
	}
	stands(t, d, m.gone, len(m.done))
	stands(t, twin, m.gone, len(m.done))
	if d.Sectors() != m.sectors {
		t.Errorf("P1301: %d sectors, not %d", d.Sectors(), m.sectors)
	}
}

// TestWords: calls by chance, on two disks alike.
func TestWords(t *testing.T) {
	for seed := range uint64(2000) {
		r := chance(seed)
		sectors := 1 + r.IntN(12)
		d, twin, m := made(t, sectors), made(t, sectors), fresh(sectors)
		for range 80 {
			call(t, r, d, twin, m)
		}
		d.Start()
		m.start()
		stays(t, d, m)
		if t.Failed() {
			t.Fatalf("seed %d", seed)
		}
	}
}

// P1304.

// TestPowerAtEach: a row of writes, the power going at each of them; then the rest of it.
func TestPowerAtEach(t *testing.T) {
	for _, sectors := range []int{1, 2, 5, 40} {
		r := chance(uint64(sectors))
		var row []note
		for range 60 {
			row = append(row, note{r.IntN(sectors), bytesOf(r, 64)})
		}
		for at := range row {
			d, m := made(t, sectors), fresh(sectors)
			d.Cut(at)
			m.cutAt(at)
			for i, x := range row {
				want := api.OK
				if i >= at {
					want = api.ErrDead
				}
				if m.write(x.n, x.b) != want {
					t.Fatal("the model is wrong")
				}
				write(t, d, x.n, x.b, want)
			}
			d.Start()
			m.start()
			stays(t, d, m)
			for _, x := range row[at:] {
				m.write(x.n, x.b)
				write(t, d, x.n, x.b, api.OK)
			}
			stays(t, d, m)
			stands(t, d, false, len(row))
		}
	}
}

// TestPowerAgainAndAgain: behind each write, done or not, every sector has what was written to it last, whatever was written elsewhere.
func TestPowerAgainAndAgain(t *testing.T) {
	for seed := range uint64(150) {
		r := chance(seed)
		sectors := 1 + r.IntN(20)
		d, m := made(t, sectors), fresh(sectors)
		for range 20 {
			cut := r.IntN(8)
			d.Cut(cut)
			m.cutAt(cut)
			for !d.Dead() {
				n, b := r.IntN(sectors), bytesOf(r, 64)
				write(t, d, n, b, m.write(n, b))
				if !m.gone {
					stays(t, d, m)
				}
				if d.Dead() != m.gone {
					t.Fatalf("P1303: seed %d: dead: %v", seed, d.Dead())
				}
			}
			d.Start()
			m.start()
			stays(t, d, m)
		}
	}
}

// TestWholeDisk: all sectors of the greatest disk, each with bytes of its own, stay while one is written over and the power goes.
func TestWholeDisk(t *testing.T) {
	d := made(t, 1024)
	for n := range 1024 {
		write(t, d, n, page(n), api.OK)
	}
	for _, over := range []int{0, 1, 511, 1022, 1023} {
		d.Cut(1)
		write(t, d, over, page(over+5000), api.OK)
		write(t, d, (over+1)%1024, page(9999), api.ErrDead)
		d.Start()
		for n := range 1024 {
			want := page(n)
			if n == over {
				want = page(n + 5000)
			}
			has(t, d, n, want)
		}
		write(t, d, over, page(over), api.OK)
		has(t, d, over, page(over))
	}
}
