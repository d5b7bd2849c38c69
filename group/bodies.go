package group

import (
	"tipstaff/api"
	"tipstaff/cycle"
	"tipstaff/drive"
	"tipstaff/shaft"
)

const nothing = -1

// body is a real car.
type body struct {
	api.Drive
	cycle      api.Cycle
	domain     int
	load       int
	in         bool
	faulted    bool
	goal       int
	way        int
	motor      bool
	began      bool
	obstructed bool
	opened     bool
}

// bank is the real cars.
type bank struct {
	bodies []body
}

func newBank(c api.Config) bank {
	var b bank
	closed, _ := cycle.Begin(doorRule(c), false)
	for range c.Cars {
		b.bodies = append(b.bodies, body{cycle: closed, in: true, goal: nothing})
	}
	return b
}

func doorRule(c api.Config) api.DoorRule {
	return api.DoorRule{Width: c.Width, Dwell: c.Dwell, Retries: c.Retries}
}

func position(c api.Config, floor int) int {
	n, _ := shaft.Distance(c.Gaps, 0, floor)
	return n
}

func (b *body) panel() int {
	return b.cycle.Door.Panel
}

// hear takes what an entry says about the car.
func (b *body) hear(e api.Entry) {
	switch e.What {
	case api.Load:
		b.load = e.Value
	case api.Obstruct:
		b.obstructed = true
	default:
		b.faulted, b.goal = true, nothing
	}
}

// takeOver begins a new slot, and reports whether the car is out of service in it.
func (b *body) takeOver(empty int) bool {
	out := b.faulted || b.load > empty
	b.faulted, b.goal, b.in = false, nothing, !out
	return out
}

// works reports whether the car is in a domain's slot, in service and not faulted.
func (b *body) works() bool {
	return b.domain != api.None && b.in && !b.faulted
}

// floor returns the floor nearest to the car.
func (b *body) floor(c api.Config) int {
	f, _ := shaft.Nearest(c.Gaps, b.Pos)
	return f
}

// begin forgets what was in the tick before.
func (b *body) begin() {
	b.way, b.motor, b.began, b.obstructed, b.opened = 0, false, false, false, false
}

func (b *body) goTo(c api.Config, floor int) {
	if d, e := drive.Go(b.Drive, position(c, floor), c.Brake); e == api.OK {
		b.Drive = d
	}
}

func (b *body) move(c api.Config) {
	d, motor, e := drive.Step(b.Drive, c.Speed, c.Brake)
	if e != api.OK {
		return
	}
	b.way = max(d.Pos-b.Pos, b.Pos-d.Pos)
	b.Drive, b.motor = d, motor
}

// stop keeps a faulted car where it is, and closes its door.
func (b *body) stop(c api.Config) {
	if d, e := drive.Halt(b.Drive); e == api.OK {
		b.Drive = d
	}
	if b.panel() == 0 {
		return
	}
	if x, e := cycle.Force(b.cycle, doorRule(c)); e == api.OK {
		b.cycle = x
	}
	b.turn(c)
}

// beginCycle begins a door cycle, which opens if the car is where it wants to be, and the door may open.
func (b *body) beginCycle(c api.Config, may bool) {
	level := false
	if b.goal != nothing && may {
		level, _ = shaft.Level(c.Gaps, b.Pos, b.goal, c.Tol)
	}
	if x, e := cycle.Begin(doorRule(c), level); e == api.OK {
		b.cycle, b.began = x, level
	}
}

// turn does a tick of the door cycle.
func (b *body) turn(c api.Config) {
	x, opened, e := cycle.Step(b.cycle, doorRule(c), b.obstructed)
	if e == api.OK {
		b.cycle, b.opened = x, opened
	}
}

// tick does a tick of the car in a phase; may says whether a door cycle may open a door.
func (b *body) tick(c api.Config, p api.Phase, may bool) {
	if !b.in || b.domain == api.None {
		return
	}
	if b.faulted {
		b.stop(c)
		return
	}
	home := c.Rules[b.domain-1].Home
	first := p.At == 0
	switch p.Part {
	case api.PartDoor, api.PartPurgeDoor:
		if first {
			b.beginCycle(c, may)
		}
		b.turn(c)
		return
	case api.PartPurgeMove:
		if first {
			b.goal = home
		}
	}
	switch {
	case first && p.Part == api.PartHoming:
		b.goTo(c, home)
	case first && b.goal != nothing:
		b.goTo(c, b.goal)
	}
	b.move(c)
}

// sight returns what a domain sees of the car.
func (b *body) sight(c api.Config, domain int, p api.Phase) api.Sight {
	switch {
	case b.domain != domain:
		return api.Sight{Floor: nothing}
	case !b.in:
		return api.Sight{Floor: nothing, Out: true}
	case b.faulted:
		return api.Sight{Floor: nothing, Panel: b.panel(), Out: true}
	case p.Part == api.PartHoming:
		return api.Sight{Floor: nothing}
	}
	return api.Sight{Floor: b.floor(c), Panel: b.panel()}
}

// views returns the cars as they are behind a tick.
func (b *bank) views(key bool) []api.BodyView {
	var l []api.BodyView
	for i := range b.bodies {
		x := &b.bodies[i]
		l = append(l, api.BodyView{Domain: x.domain, Pos: x.Pos, Speed: x.way, Motor: x.motor, Panel: x.panel(), Load: x.load, In: x.in, Faulted: x.faulted, Goal: x.goal, Began: x.began, Key: key})
	}
	return l
}

// takeOver begins a new slot for all cars, and returns the word.
func (b *bank) takeOver(empty int) int {
	word := 0
	for i := range b.bodies {
		if b.bodies[i].takeOver(empty) {
			word |= 1 << uint(i)
		}
	}
	return word
}
