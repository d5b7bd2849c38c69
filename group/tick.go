package group

import (
	"tipstaff/api"
	"tipstaff/pick"
	"tipstaff/port"
	"tipstaff/slice"
)

const (
	all    = 3
	noWord = -1
)

// moment is one tick of a group: where it lies, what happens in it, and what is replied.
type moment struct {
	p       api.Phase
	l       []api.Entry
	word    int
	replies [all][]api.Reply
	views   []api.View
}

// tick does a tick with valid entries, and returns the views behind it.
func (s *state) tick(l []api.Entry) []api.View {
	steps := [7]func(*state, *moment){
		(*state).handOver,
		(*state).hearPorts,
		(*state).hearCars,
		(*state).choose,
		(*state).moveCars,
		(*state).serve,
		(*state).look,
	}
	m := &moment{p: s.phase(), l: l, word: noWord}
	for _, step := range steps {
		step(s, m)
	}
	s.now++
	return m.views
}

// handOver begins a new slot, and all that is new in each tick.
func (s *state) handOver(m *moment) {
	first := m.p.Part == api.PartHoming && m.p.At == 0
	if first && m.p.Slot > 0 {
		s.word, s.handed = s.takeOver(s.c.Empty), true
		m.word = s.word
		s.wipe()
	}
	for i := range s.bodies {
		s.bodies[i].begin()
		if first {
			s.bodies[i].domain, _ = slice.Domain(s.c.Rota, s.t.Slot, i+1, s.now)
		}
	}
}

func (s *state) hearPorts(m *moment) {
	for _, x := range m.l {
		if x.Kind != api.AtPort {
			continue
		}
		domain, _ := port.Domain(x.Port)
		e, code, _ := port.Judge(s.c, x.Port, x.Data)
		if code == 0 {
			code = s.reply(domain, e, m.p)
		}
		m.replies[domain-1] = append(m.replies[domain-1], api.Reply{Port: x.Port, Code: code})
	}
}

// reply does what arrived for a domain, and returns the code of the reply.
func (s *state) reply(domain int, e api.Event, p api.Phase) int {
	own := s.of(domain)
	switch e.Kind {
	case api.EvHall:
		if !mayUse(s.c, domain, e.A) {
			return api.Forbidden
		}
		// The directions have the numbers of the kinds of hall calls.
		return own.put(api.Call{Kind: e.B, Floor: e.A, At: s.now})
	case api.EvCar:
		b := &s.bodies[e.A-1]
		during := p.Part == api.PartMove || p.Part == api.PartDoor
		if !mayUse(s.c, domain, e.B) || b.domain != domain || !b.works() || !during {
			return api.Forbidden
		}
		return own.put(api.Call{Kind: api.CarCall, Floor: e.B, Car: e.A, At: s.now})
	case api.EvKey:
		if domain != api.Detainee {
			return api.Forbidden
		}
		return own.present(e.A, s.now)
	}
	own.modes[e.A-1] = e.B
	return api.Accepted
}

func (s *state) hearCars(m *moment) {
	for _, x := range m.l {
		if x.Kind == api.AtCar {
			s.bodies[x.Car-1].hear(x)
		}
	}
}

// choose lets the cars choose their goals in a tick in which a PartMove begins.
func (s *state) choose(m *moment) {
	if m.p.Part != api.PartMove || m.p.At != 0 {
		return
	}
	for domain := api.Public; domain <= api.Detainee; domain++ {
		var taken []api.Call
		for i := range s.bodies {
			b := &s.bodies[i]
			if b.domain != domain || !b.works() {
				continue
			}
			goal, is, by, _ := pick.Goal(s.of(domain).table, s.ask(domain, i+1, m.p, taken))
			b.goal = nothing
			if is {
				b.goal = goal
			}
			if by.Kind == api.HallUp || by.Kind == api.HallDown {
				taken = append(taken, by)
			}
		}
	}
}

// ask returns what the choice of a car looks at.
func (s *state) ask(domain, car int, p api.Phase, taken []api.Call) api.Ask {
	b := &s.bodies[car-1]
	return api.Ask{Car: car, Mode: s.of(domain).modes[car-1], Trip: p.Trip, Now: s.now, Cycle: s.t.Cycle, Load: b.load, Full: s.c.Full, Floor: b.floor(s.c), Home: s.c.Rules[domain-1].Home, Taken: taken}
}

func (s *state) moveCars(m *moment) {
	key := s.keyAt(s.now)
	for i := range s.bodies {
		b := &s.bodies[i]
		b.tick(s.c, m.p, b.domain != api.Detainee || key)
	}
}

func (s *state) serve(m *moment) {
	if m.p.Part != api.PartDoor {
		return
	}
	for i := range s.bodies {
		if b := &s.bodies[i]; b.opened && b.domain != api.None {
			s.of(b.domain).serve(b.goal, i+1)
		}
	}
}

func (s *state) look(m *moment) {
	for domain := api.Public; domain <= api.Detainee; domain++ {
		m.views = append(m.views, s.view(domain, m.p, m.replies[domain-1], m.word))
	}
}
