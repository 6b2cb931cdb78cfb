package ledge

import "pennyfall/api"

// fallen stands for the place of a copper that falls.
const fallen = -1

// pusher is one that drops coppers on its ledge.
type pusher struct {
	ledge
	lies []int // where each copper lies
	slid int   // how far all slid together
	fell int   // how many fell
}

func newPusher(places int) *pusher {
	return &pusher{ledge: ledge{places: places}}
}

// pushed drops coppers on a ledge, or returns the error of CheckDrops.
func pushed(places int, drops []int) (*pusher, api.Errno) {
	if e := CheckDrops(places, drops); e != api.OK {
		return nil, e
	}
	p := newPusher(places)
	p.drop(p.along, drops...)
	return p, api.OK
}

// drop drops coppers one after another; next tells where they slide.
func (p *pusher) drop(next func(at int) int, drops ...int) {
coppers:
	for _, from := range drops {
		for at, far := range p.free(from, next) {
			p.lay(at, far)
			continue coppers
		}
		p.lose(p.places - from)
	}
}

// lay lets a copper lie at a free place.
func (p *pusher) lay(at, far int) {
	p.taken[at] = true
	p.lies = append(p.lies, at)
	p.slid += far
}

// lose lets a copper fall.
func (p *pusher) lose(far int) {
	p.fell++
	p.lies = append(p.lies, fallen)
	p.slid += far
}

// sweep takes all coppers away.
func (p *pusher) sweep() {
	clear(p.taken[:])
	p.lies = nil
	p.slid, p.fell = 0, 0
}

// holds tells whether none of the coppers of some drops falls, alone on the ledge.
func (p *pusher) holds(drops []int) bool {
	p.sweep()
	p.drop(p.along, drops...)
	return p.fell == 0
}
