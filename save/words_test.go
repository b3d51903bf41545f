package save

import (
	"math/rand/v2"
	"slices"
	"testing"

	"adit/api"
	"adit/disk"
)

// What P1402 to P1404 say, gone through in the plainest way: which campaigns may count.

// unsaved stands for none, where the number of a campaign is asked for.
const unsaved = -1

type model struct {
	l       []Campaign
	sectors int
	may     []int // the numbers of those that may count
}

func fresh(l []Campaign, sectors int) *model { return &model{l, sectors, []int{unsaved}} }

// save holds a Save of the n-th campaign against the words, where the power is to go behind cut writes (below 0: it does not).
func (m *model) save(t *testing.T, d *disk.Disk, n, cut int) api.Errno {
	t.Helper()
	was, dead := d.Writes(), d.Dead()
	err := Save(d, m.l[n])
	writes := d.Writes() - was
	switch {
	case writes > 40 || cut >= 0 && writes > cut:
		t.Errorf("P1403: a Save of %d writes, cut at %d", writes, cut)
	case dead && (err != api.ErrDead || writes > 0):
		t.Errorf("P1402: without power: %v, %d writes", err, writes)
	case !dead && (err != api.OK && err != api.ErrDead || d.Dead() != (err == api.ErrDead)):
		t.Errorf("P1402: %v, dead: %v", err, d.Dead())
	case !dead && err == api.ErrDead && (cut < 0 || cut >= 40 || writes != cut):
		t.Errorf("P1402: the power went at write %d, cut at %d", writes, cut)
	}
	switch {
	case err == api.OK:
		m.may = []int{n}
	case writes > 0 && !slices.Contains(m.may, n):
		m.may = append(m.may, n)
	}
	return err
}

// load holds a Load against the words, where the power is there: what it tells counts from now on.
func (m *model) load(t *testing.T, d *disk.Disk) {
	t.Helper()
	writes := d.Writes()
	c, err := Load(d)
	told := func(n int) bool {
		if n == unsaved {
			return err == api.ErrNone && nothing(c)
		}
		return err == api.OK && same(c, m.l[n])
	}
	i := slices.IndexFunc(m.may, told)
	if i < 0 {
		t.Fatalf("P1403: Load: %v, frame %d, seats %v, which is none of %v", err, c.World.Frame, c.Seats, m.may)
	}
	m.may = []int{m.may[i]}
	if d.Writes() != writes || d.Dead() {
		t.Error("P1402: Load wrote something")
	}
}

// stays asks again and again, the power going and coming between.
func (m *model) stays(t *testing.T, d *disk.Disk) {
	t.Helper()
	for range 2 {
		m.load(t, d)
		out(d)
		unloaded(t, d, api.ErrDead)
		d.Start()
		m.load(t, d)
		d.Cut(0)
		m.load(t, d)
		d.Start()
	}
}

// history is a disk to which some of the campaigns were saved.
func history(t *testing.T, l []Campaign, had int) (*disk.Disk, *model) {
	t.Helper()
	d, m := made(t, 40), fresh(l, 40)
	for n := range had {
		if err := m.save(t, d, n, -1); err != api.OK {
			t.Fatalf("P1402: %v", err)
		}
	}
	return d, m
}

// most is how many writes a Save does, at most, on disks with any of some histories.
func most(t *testing.T, l []Campaign) int {
	t.Helper()
	n := 0
	for had := range 4 {
		d, m := history(t, l, had)
		was := d.Writes()
		m.save(t, d, had, -1)
		n = max(n, d.Writes()-was)
	}
	return n
}

// P1403.

// TestWrites: 40 at most, however many were done; one at least, as what is told is another campaign.
func TestWrites(t *testing.T) {
	l := line(50)
	for _, sectors := range []int{40, 41, 64, 1024} {
		d, m := made(t, sectors), fresh(l, sectors)
		for n := range l {
			was := d.Writes()
			if err := m.save(t, d, n, -1); err != api.OK || d.Writes() == was || d.Writes()-was > 40 {
				t.Errorf("P1403: %v, %d writes", err, d.Writes()-was)
			}
			m.load(t, d)
		}
	}
}

// TestCutAtEach: behind several histories the power goes at each write of a Save; then it is saved again, and another campaign.
func TestCutAtEach(t *testing.T) {
	l := line(12)
	for had := range 8 {
		for cut := range 43 {
			d, m := history(t, l, had)
			elder := m.may[0]
			d.Cut(cut)
			err := m.save(t, d, had, cut)
			d.Start()
			m.stays(t, d)
			switch {
			case err == api.OK && m.may[0] != had:
				t.Errorf("P1402: %d, cut at %d: what was answered OK is lost", had, cut)
			case cut == 0 && m.may[0] != elder:
				t.Errorf("P1403: %d: no write was done, but it is not the elder one", had)
			case cut >= 40 && err != api.OK:
				t.Errorf("P1403: %d, cut at %d: more than 40 writes", had, cut)
			}
			for _, n := range []int{had, had + 1, had, had + 2} {
				m.save(t, d, n, -1)
				m.load(t, d)
			}
		}
	}
}

// TestFirstOfAll: on a new disk the very first Save is cut off at each write, several times: there is none, or it.
func TestFirstOfAll(t *testing.T) {
	l := line(3)
	for cut := range 41 {
		d, m := history(t, l, 0)
		for _, n := range []int{0, 0, 1, 0} {
			d.Cut(cut)
			m.save(t, d, n, cut)
			d.Start()
			m.stays(t, d)
			if cut == 0 {
				unloaded(t, d, api.ErrNone)
			}
		}
		m.save(t, d, 2, -1)
		loaded(t, d, l[2])
	}
}

// TestStaysTill: what counts behind a Save that was cut off stays so behind all that is no Save that writes: such as are refused, and such without power.
func TestStaysTill(t *testing.T) {
	l := line(8)
	for had := range 4 {
		for cut := range most(t, l) {
			d, m := history(t, l, had)
			d.Cut(cut)
			m.save(t, d, had, cut)
			m.save(t, d, had+1, cut) // without power
			d.Start()
			m.load(t, d)
			for _, f := range faults() {
				saved(t, d, Campaign{World: f.world, Seats: seatsOf(7)}, f.want)
				m.load(t, d)
			}
			d.Cut(0)
			m.save(t, d, had+2, 0)
			d.Start()
			m.stays(t, d)
		}
	}
}

// P1404.

// TestCutsInARow: three Saves, each cut off at any write, asked for behind each of them, or behind the last one alone; then one that is not.
func TestCutsInARow(t *testing.T) {
	l := line(7)
	each := most(t, l) + 1
	for had := range 3 {
		for all := range each * each * each {
			d, m := history(t, l, had)
			for i, cut := range []int{all / each / each, all / each % each, all % each} {
				d.Cut(cut)
				m.save(t, d, had+i, cut)
				d.Start()
				if all%2 == 0 {
					m.load(t, d)
				}
			}
			m.load(t, d)
			m.load(t, d)
			m.save(t, d, had+3, -1)
			m.load(t, d)
			if t.Failed() {
				t.Fatalf("%d saves, cuts by number %d", had, all)
			}
		}
	}
}

// TestCutsForLong: many Saves, one behind the other, each cut off somewhere but for some; the last one that was answered OK is not lost.
func TestCutsForLong(t *testing.T) {
	l := line(60)
	for seed := range uint64(40) {
		r := rand.New(rand.NewPCG(seed, 14))
		d, m := made(t, 40+r.IntN(3)), fresh(l, 40)
		for range 60 {
			cut := r.IntN(45) - 4
			d.Cut(cut)
			m.save(t, d, r.IntN(len(l)), cut)
			d.Start()
			if r.IntN(2) == 0 {
				m.load(t, d)
			}
		}
		m.stays(t, d)
		if t.Failed() {
			t.Fatalf("seed %d", seed)
		}
	}
}

// player makes calls by chance of a disk, and holds what they answer against the model.
type player struct {
	d    *disk.Disk
	m    *model
	left int // writes till the power goes; below 0: it does not
}

// save is what Save answers of the n-th campaign, or of one that may not be.
func (p *player) save(t *testing.T, r *rand.Rand, bad []fault) {
	t.Helper()
	was := p.d.Writes()
	f := bad[r.IntN(len(bad))]
	switch n := r.IntN(len(p.m.l)); {
	case p.m.sectors < 40:
		saved(t, p.d, []Campaign{p.m.l[n], {World: f.world}}[r.IntN(2)], api.ErrFull)
	case r.IntN(4) == 0:
		saved(t, p.d, Campaign{World: f.world}, f.want)
	default:
		p.m.save(t, p.d, n, p.left)
		if p.left >= 0 {
			p.left -= p.d.Writes() - was
		}
		return
	}
	if p.d.Writes() != was {
		t.Error("P5: a Save that was refused wrote something")
	}
}

func (p *player) load(t *testing.T) {
	t.Helper()
	switch {
	case p.m.sectors < 40:
		unloaded(t, p.d, api.ErrFull)
	case p.d.Dead():
		unloaded(t, p.d, api.ErrDead)
	default:
		p.m.load(t, p.d)
	}
}

// TestWords: calls by chance, on disks that are large enough, and on others.
func TestWords(t *testing.T) {
	l, bad := line(40), faults()
	for seed := range uint64(600) {
		r := rand.New(rand.NewPCG(seed, 1404))
		sectors := 38 + r.IntN(8)
		p := &player{made(t, sectors), fresh(l, sectors), -1}
		for range 60 {
			switch r.IntN(9) {
			case 0:
				if p.left = r.IntN(50) - 2; !p.d.Dead() {
					p.d.Cut(p.left)
				}
			case 1, 2:
				p.d.Start()
				p.left = -1
			case 3:
				out(p.d)
			case 4, 5:
				p.load(t)
			default:
				p.save(t, r, bad)
			}
		}
		p.d.Start()
		p.load(t)
		p.load(t)
		if t.Failed() {
			t.Fatalf("seed %d", seed)
		}
	}
}

// TestExample is the chapter's.
func TestExample(t *testing.T) {
	l := line(2)
	d := made(t, 40)
	saved(t, d, l[0], api.OK)
	d.Cut(0)
	saved(t, d, l[1], api.ErrDead)
	d.Start()
	loaded(t, d, l[0])
}
