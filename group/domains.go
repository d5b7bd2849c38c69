package group

import (
	"slices"

	"tipstaff/api"
	"tipstaff/key"
	"tipstaff/mask"
	"tipstaff/table"
)

// side is what a domain has of its own.
type side struct {
	table api.Table
	keys  api.KeyState
	modes []int
}

// domains are the three domains.
type domains struct {
	sides []side
}

func newDomains(c api.Config) domains {
	var d domains
	for _, r := range c.Rules {
		s := side{modes: make([]int, c.Cars)}
		s.table, _ = table.New(r.Calls)
		s.keys, _ = key.New(c.Keys, c.Life)
		d.sides = append(d.sides, s)
	}
	return d
}

func cloneTable(t api.Table) api.Table {
	t.Calls = clone(t.Calls)
	return t
}

func (s side) copied() side {
	s.table = cloneTable(s.table)
	s.keys.Keys = clone(s.keys.Keys)
	s.modes = clone(s.modes)
	return s
}

// of returns the side of a domain from 1 on.
func (d *domains) of(domain int) *side {
	return &d.sides[domain-1]
}

// wipe takes all car calls out of all tables.
func (d *domains) wipe() {
	for i := range d.sides {
		d.sides[i].table, _, _ = table.Wipe(d.sides[i].table)
	}
}

// keyAt reports whether a key is valid at a tick: keys count for detainees alone.
func (d *domains) keyAt(tick int) bool {
	valid, _ := key.Valid(d.of(api.Detainee).keys, tick)
	return valid
}

func (d *domains) tables() []api.Table {
	var l []api.Table
	for _, s := range d.sides {
		l = append(l, cloneTable(s.table))
	}
	return l
}

// put puts a call into the table, and returns the code of the reply.
func (s *side) put(c api.Call) int {
	t, code, e := table.Put(s.table, c)
	if e == api.OK {
		s.table = t
	}
	return code
}

// present presents a key, and returns the code of the reply.
func (s *side) present(k, now int) int {
	keys, known, e := key.Present(s.keys, k, now)
	if e != api.OK || !known {
		return api.Forbidden
	}
	s.keys = keys
	return api.Accepted
}

// serve takes the calls that a car serves at a floor out of the table.
func (s *side) serve(floor, car int) {
	s.table, _, _ = table.Serve(s.table, floor, car)
}

// mayUse reports whether a domain may use a floor.
func mayUse(c api.Config, domain, floor int) bool {
	return mask.Has(c.Rules[domain-1].Mask, floor)
}

// sights returns what a domain sees of all cars.
func (s *state) sights(domain int, p api.Phase) []api.Sight {
	var l []api.Sight
	for i := range s.bodies {
		l = append(l, s.bodies[i].sight(s.c, domain, p))
	}
	return l
}

// view returns what a domain sees behind a tick.
func (s *state) view(domain int, p api.Phase, replies []api.Reply, word int) api.View {
	v := api.View{Tick: s.now, Replies: slices.Clone(replies), Sights: s.sights(domain, p), Word: word}
	v.Up, v.Down, _ = table.Halls(s.of(domain).table)
	return v
}
