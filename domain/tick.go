package domain

import (
	"slices"

	"tipstaff/api"
	"tipstaff/car"
	"tipstaff/config"
	"tipstaff/key"
	"tipstaff/phase"
	"tipstaff/pick"
	"tipstaff/port"
	"tipstaff/table"
)

const (
	noWord  = -1
	nothing = -1
)

// machine does one tick of a domain.
type machine struct {
	c          api.Config
	t          api.Times
	p          api.Phase
	s          api.DomainState
	l          []api.Entry
	word       int
	handover   bool
	mine       []int
	obstructed [api.MaxCars]bool
	served     [api.MaxCars]int
	view       api.View
}

// event is what arrives at a port.
type event interface {
	// allowed reports whether the domain may do this now.
	allowed(m *machine) bool
}

type hallCall struct {
	kind  int
	floor int
}

type carCall struct {
	car   int
	floor int
}

type token struct {
	key int
}

type setting struct {
	car  int
	mode int
}

func (h hallCall) allowed(m *machine) bool {
	return mayUse(m.c, m.s, h.floor)
}

func (x carCall) allowed(m *machine) bool {
	s := m.s.Cars[x.car-1]
	during := m.p.Part == api.PartMove || m.p.Part == api.PartDoor
	return mayUse(m.c, m.s, x.floor) && slices.Contains(m.mine, x.car) && s.In && !s.Faulted && during
}

func (k token) allowed(m *machine) bool {
	return m.s.Domain == api.Detainee && slices.Contains(m.s.Keys.Keys, k.key)
}

func (x setting) allowed(m *machine) bool {
	return true
}

func eventOf(e api.Event) event {
	switch e.Kind {
	case api.EvHall:
		// The directions have the numbers of the kinds of hall calls.
		return hallCall{kind: e.B, floor: e.A}
	case api.EvCar:
		return carCall{car: e.A, floor: e.B}
	case api.EvKey:
		return token{key: e.A}
	}
	return setting{car: e.A, mode: e.B}
}

func begin(c api.Config, s api.DomainState, l []api.Entry, word int) *machine {
	m := &machine{c: c, s: s, l: l, word: word}
	m.t, _ = config.Times(c)
	m.p, _ = phase.Of(m.t, s.Now)
	m.handover = m.p.Slot > 0 && m.p.Part == api.PartHoming && m.p.At == 0
	m.mine = cars(c, s)
	for i := range m.served {
		m.served[i] = nothing
	}
	return m
}

// run does the steps of a tick one after the other; at its very end the time goes on.
func (m *machine) run() api.Errno {
	defer m.goOn()
	steps := []func() api.Errno{m.takeOver, m.hearAll, m.choose, m.moveCars, m.serve, m.look}
	for _, step := range steps {
		if e := step(); e != api.OK {
			return e
		}
	}
	return api.OK
}

func (m *machine) goOn() {
	m.s.Now++
}

func (m *machine) takeOver() (err api.Errno) {
	if !m.handover {
		return api.OK
	}
	m.s.Out = m.word
	m.s.Table, _, err = table.Wipe(m.s.Table)
	m.s.Cars = fresh(m.c, m.word)
	return err
}

// hearAll hears the entries of ports first, because those of cars do not count for calls in the same tick.
func (m *machine) hearAll() api.Errno {
	kinds := map[int]func(*machine, []api.Entry) api.Errno{
		api.AtPort: (*machine).hearPorts,
		api.AtCar:  (*machine).hearCars,
	}
	for _, kind := range [2]int{api.AtPort, api.AtCar} {
		var l []api.Entry
		for _, e := range m.l {
			if e.Kind == kind {
				l = append(l, e)
			}
		}
		if len(l) == 0 {
			continue
		}
		if e := kinds[kind](m, l); e != api.OK {
			return e
		}
	}
	return api.OK
}

func (m *machine) hearPorts(l []api.Entry) api.Errno {
	for _, x := range l {
		e, code, err := port.Judge(m.c, x.Port, x.Data)
		if err != api.OK {
			return err
		}
		if code == 0 {
			code = m.reply(eventOf(e))
		}
		m.view.Replies = append(m.view.Replies, api.Reply{Port: x.Port, Code: code})
	}
	return api.OK
}

// reply does what arrived, and returns the code of the reply.
func (m *machine) reply(e event) int {
	if !e.allowed(m) {
		return api.Forbidden
	}
	if x, is := e.(setting); is {
		m.s.Modes[x.car-1] = x.mode
		return api.Accepted
	}
	switch x := e.(type) {
	case hallCall:
		return m.put(api.Call{Kind: x.kind, Floor: x.floor, At: m.s.Now})
	case carCall:
		return m.put(api.Call{Kind: api.CarCall, Floor: x.floor, Car: x.car, At: m.s.Now})
	case token:
		if k, known, e := key.Present(m.s.Keys, x.key, m.s.Now); known && e == api.OK {
			m.s.Keys = k
		}
	}
	return api.Accepted
}

func (m *machine) put(c api.Call) int {
	t, code, e := table.Put(m.s.Table, c)
	if e == api.OK {
		m.s.Table = t
	}
	return code
}

func (m *machine) hearCars(l []api.Entry) api.Errno {
	for _, n := range m.mine {
		s, obstructed, e := car.Hear(m.c, m.s.Cars[n-1], n, l)
		if e != api.OK {
			return e
		}
		m.s.Cars[n-1], m.obstructed[n-1] = s, obstructed
	}
	return api.OK
}

// choose lets the cars choose their goals in a tick in which a PartMove begins.
func (m *machine) choose() api.Errno {
	if m.p.Part != api.PartMove || m.p.At != 0 {
		return api.OK
	}
	var taken []api.Call
	for _, n := range m.mine {
		s := m.s.Cars[n-1]
		if ready, e := car.Ready(m.c, s, m.p); e != api.OK || !ready {
			continue
		}
		floor, _ := car.Floor(m.c, s)
		a := api.Ask{Car: n, Mode: m.s.Modes[n-1], Trip: m.p.Trip, Now: m.s.Now, Cycle: m.t.Cycle, Load: s.Load, Full: m.c.Full, Floor: floor, Home: home(m.c, m.s), Taken: taken}
		goal, is, by, _ := pick.Goal(m.s.Table, a)
		if !is {
			goal = nothing
		}
		if by.Kind == api.HallUp || by.Kind == api.HallDown {
			taken = append(taken, by)
		}
		s, e := car.Choose(m.c, s, m.p, goal)
		if e != api.OK {
			return e
		}
		m.s.Cars[n-1] = s
	}
	return api.OK
}

func (m *machine) moveCars() api.Errno {
	may := open(m.s)
	for _, n := range m.mine {
		s, served, e := car.Step(m.c, m.s.Cars[n-1], m.p, home(m.c, m.s), may, m.obstructed[n-1])
		if e != api.OK {
			return e
		}
		m.s.Cars[n-1], m.served[n-1] = s, served
	}
	return api.OK
}

func (m *machine) serve() api.Errno {
	for _, n := range m.mine {
		if m.served[n-1] == nothing {
			continue
		}
		t, _, e := table.Serve(m.s.Table, m.served[n-1], n)
		if e != api.OK {
			return e
		}
		m.s.Table = t
	}
	return api.OK
}

// look makes the view behind the tick.
func (m *machine) look() (err api.Errno) {
	m.view.Tick, m.view.Word = m.s.Now, m.word
	for i, s := range m.s.Cars {
		sight := api.Sight{Floor: nothing}
		if slices.Contains(m.mine, i+1) {
			sight, err = car.Sight(m.c, s, m.p)
			if err != api.OK {
				return err
			}
		}
		m.view.Sights = append(m.view.Sights, sight)
	}
	m.view.Up, m.view.Down, err = table.Halls(m.s.Table)
	return err
}
