package trace

import (
	"slices"

	"tipstaff/api"
	"tipstaff/row"
)

const (
	inName  = "in"
	outName = "out"
)

// The rows of a text, in the order in which they stand behind one another.
const (
	fromRow = iota
	atRow
	replyRow
	carRow
	upRow
	downRow
	wordRow
	toRow
)

// names are the names of the rows, by their numbers.
var names = [8]string{"from", "at", "reply", "car", "up", "down", "word", "to"}

// item is what a row says.
type item interface {
	// inRange reports whether its numbers are possible.
	inRange() bool
}

type start struct {
	tick   int
	sights int
}

type moment struct {
	tick int
}

type answer struct {
	reply api.Reply
}

type sighting struct {
	car   int
	sight api.Sight
}

type lights struct {
	floors []int
	down   bool
}

type word struct {
	word int
}

type end struct {
	tick int
}

func isTick(n int) bool { return within(n, 0, api.MaxTick) }

func (x start) inRange() bool { return isStart(x.tick) && isSights(x.sights) }

func (x moment) inRange() bool { return isTick(x.tick) }

func (x answer) inRange() bool { return isReply(x.reply) }

func (x sighting) inRange() bool { return isSights(x.car) && isSight(x.sight) }

func (x lights) inRange() bool {
	return !slices.ContainsFunc(x.floors, func(f int) bool { return !within(f, 0, api.MaxFloors-1) })
}

func (x word) inRange() bool { return within(x.word, 0, maxWord) }

func (x end) inRange() bool { return isTick(x.tick) }

// ints returns the numbers of words; false if there is another word, or not the wanted number of them (if this is not below 0).
func ints(words []api.RowWord, wanted int) ([]int, bool) {
	var l []int
	for _, w := range words {
		if w.Kind != api.IsNumber {
			return nil, false
		}
		l = append(l, w.N)
	}
	return l, wanted < 0 || len(l) == wanted
}

// readCar reads the words of a row car.
func readCar(words []api.RowWord) (item, bool) {
	if len(words) != 4 || words[3].Kind != api.IsName || words[3].Name != inName && words[3].Name != outName {
		return nil, false
	}
	n, ok := ints(words[:3], 3)
	if !ok {
		return nil, false
	}
	return sighting{car: n[0], sight: api.Sight{Floor: n[1], Panel: n[2], Out: words[3].Name == outName}}, true
}

// read returns what a row says, and its number; false if its words are not as they have to be.
func read(r api.Row) (x item, kind int, ok bool) {
	all := names
	kind, e := row.Which(r.Words[0], all[:])
	if e != api.OK {
		return nil, 0, false
	}
	words := r.Words[1:]
	if kind == carRow {
		x, ok = readCar(words)
		return x, kind, ok
	}
	wanted := [8]int{fromRow: 2, atRow: 1, replyRow: 2, upRow: -1, downRow: -1, wordRow: 1, toRow: 1}
	n, ok := ints(words, wanted[kind])
	if !ok {
		return nil, kind, false
	}
	switch kind {
	case fromRow:
		x = start{tick: n[0], sights: n[1]}
	case atRow:
		x = moment{tick: n[0]}
	case replyRow:
		x = answer{reply: api.Reply{Port: n[0], Code: n[1]}}
	case wordRow:
		x = word{word: n[0]}
	case toRow:
		x = end{tick: n[0]}
	default:
		x = lights{floors: n, down: kind == downRow}
	}
	return x, kind, true
}

// reader makes views of rows: done are the whole ones, and now is the one that rows change.
type reader struct {
	begun bool
	over  bool
	stage int
	from  int
	at    int
	car   int
	now   api.View
	done  []api.View
}

// stands reports whether a row of this kind can stand here.
func (r *reader) stands(kind int) bool {
	switch {
	case r.over || !r.begun:
		return !r.over && kind == fromRow
	case kind == atRow || kind == toRow:
		return true
	case kind == fromRow || r.stage < atRow:
		return false
	case kind == replyRow || kind == carRow:
		return r.stage <= kind
	}
	return r.stage < kind
}

// order says whether what a row says may come behind what was said before.
func (r *reader) order(x item) api.Errno {
	switch x := x.(type) {
	case moment:
		if x.tick <= r.at {
			return api.ErrOrder
		}
	case sighting:
		if x.car <= r.car {
			return api.ErrOrder
		}
	case lights:
		for i, f := range x.floors {
			if i > 0 && f <= x.floors[i-1] {
				return api.ErrOrder
			}
		}
	case answer:
		if len(r.now.Replies) == api.MaxReplies {
			return api.ErrLong
		}
	case end:
		if x.tick < r.from || x.tick < r.at {
			return api.ErrOrder
		}
		if x.tick >= r.from+api.MaxSeen {
			return api.ErrLong
		}
	}
	return api.OK
}

// pass lets the time go on to before a tick; a trace does not get longer than it may be.
func (r *reader) pass(to int) {
	for r.now.Tick < min(to, r.from+api.MaxSeen) {
		r.done = append(r.done, copyView(r.now))
		r.now.Tick++
		r.now.Replies, r.now.Word = nil, -1
	}
}

// take does what a row says.
func (r *reader) take(x item) {
	switch x := x.(type) {
	case start:
		// As if there had been an at right before the first tick.
		r.begun = true
		r.from, r.at = x.tick, x.tick-1
		r.now = before(x.sights)
		r.now.Tick = x.tick
	case moment:
		r.pass(x.tick)
		r.at, r.car = x.tick, 0
	case answer:
		r.now.Replies = append(r.now.Replies, x.reply)
	case sighting:
		r.now.Sights[x.car-1] = x.sight
		r.car = x.car
	case lights:
		set := uint64(0)
		for _, f := range x.floors {
			set |= 1 << uint(f)
		}
		if x.down {
			r.now.Down = set
		} else {
			r.now.Up = set
		}
	case word:
		r.now.Word = x.word
	case end:
		r.over = true
		r.pass(x.tick + 1)
	}
}

// row reads a row.
func (r *reader) row(l api.Row) api.Errno {
	x, kind, ok := read(l)
	if !ok || !r.stands(kind) {
		return api.ErrForm
	}
	if !x.inRange() {
		return api.ErrRange
	}
	if c, is := x.(sighting); is && c.car > len(r.now.Sights) {
		return api.ErrRange
	}
	if e := r.order(x); e != api.OK {
		return e
	}
	r.take(x)
	r.stage = kind
	return api.OK
}

// Parse returns the trace of which text is the text.
func Parse(text string) ([]api.View, api.Fault) {
	rows, f := row.Rows(text)
	if f.Err != api.OK {
		return nil, f
	}
	r := &reader{}
	for _, l := range rows {
		if e := r.row(l); e != api.OK {
			return nil, api.Fault{Err: e, At: l.Words[0].At}
		}
	}
	if r.begun && !r.over {
		return nil, api.Fault{Err: api.ErrMissing, At: len(text)}
	}
	return r.done, api.Fault{}
}
