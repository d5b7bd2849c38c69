// Package total has no code: its test calls all functions of all layers with arguments of every kind.
package total

import (
	"math/rand"
	"reflect"
	"testing"

	"tipstaff/api"
	"tipstaff/assign"
	"tipstaff/bench"
	"tipstaff/bound"
	"tipstaff/brake"
	"tipstaff/call"
	"tipstaff/car"
	"tipstaff/config"
	"tipstaff/crc"
	"tipstaff/cycle"
	"tipstaff/domain"
	"tipstaff/door"
	"tipstaff/drive"
	"tipstaff/fix"
	"tipstaff/flow"
	"tipstaff/group"
	"tipstaff/guard"
	"tipstaff/key"
	"tipstaff/limit"
	"tipstaff/load"
	"tipstaff/lock"
	"tipstaff/mask"
	"tipstaff/mode"
	"tipstaff/motion"
	"tipstaff/move"
	"tipstaff/panel"
	"tipstaff/phase"
	"tipstaff/pick"
	"tipstaff/plant"
	"tipstaff/port"
	"tipstaff/product"
	"tipstaff/profile"
	"tipstaff/purge"
	"tipstaff/report"
	"tipstaff/ring"
	"tipstaff/row"
	"tipstaff/script"
	"tipstaff/scrub"
	"tipstaff/sensor"
	"tipstaff/shaft"
	"tipstaff/slice"
	"tipstaff/table"
	"tipstaff/trace"
	"tipstaff/wire"
	"tipstaff/word"
)

// all are the functions that the chapters list, but for the methods of groups.
func all() map[string]any {
	return map[string]any{
		"fix.Check":       fix.Check,
		"fix.Add":         fix.Add,
		"fix.Sub":         fix.Sub,
		"fix.Mul":         fix.Mul,
		"fix.Div":         fix.Div,
		"fix.Scale":       fix.Scale,
		"fix.Sum":         fix.Sum,
		"fix.Clamp":       fix.Clamp,
		"fix.Split":       fix.Split,
		"mask.Has":        mask.Has,
		"mask.Put":        mask.Put,
		"mask.All":        mask.All,
		"mask.Count":      mask.Count,
		"mask.Above":      mask.Above,
		"mask.Below":      mask.Below,
		"mask.Nearest":    mask.Nearest,
		"mask.List":       mask.List,
		"mask.Text":       mask.Text,
		"mask.Parse":      mask.Parse,
		"row.Rows":        row.Rows,
		"row.Text":        row.Text,
		"row.Sound":       row.Sound,
		"row.Quote":       row.Quote,
		"row.Unquote":     row.Unquote,
		"row.Name":        row.Name,
		"row.Int":         row.Int,
		"row.Which":       row.Which,
		"crc.Step":        crc.Step,
		"crc.Sum":         crc.Sum,
		"crc.Good":        crc.Good,
		"crc.Join":        crc.Join,
		"crc.Fix":         crc.Fix,
		"crc.Seal":        crc.Seal,
		"crc.Hex":         crc.Hex,
		"crc.Parse":       crc.Parse,
		"ring.New":        ring.New,
		"ring.Check":      ring.Check,
		"ring.Put":        ring.Put,
		"ring.First":      ring.First,
		"ring.Find":       ring.Find,
		"ring.Drop":       ring.Drop,
		"ring.Wipe":       ring.Wipe,
		"ring.Rest":       ring.Rest,
		"ring.Age":        ring.Age,
		"wire.Check":      wire.Check,
		"wire.Encode":     wire.Encode,
		"wire.Decode":     wire.Decode,
		"wire.Scan":       wire.Scan,
		"wire.Join":       wire.Join,
		"wire.Length":     wire.Length,
		"shaft.Check":     shaft.Check,
		"shaft.Positions": shaft.Positions,
		"shaft.Height":    shaft.Height,
		"shaft.Nearest":   shaft.Nearest,
		"shaft.Level":     shaft.Level,
		"shaft.At":        shaft.At,
		"shaft.Distance":  shaft.Distance,
		"shaft.Between":   shaft.Between,
		"profile.Tri":     profile.Tri,
		"profile.Next":    profile.Next,
		"profile.Travel":  profile.Travel,
		"profile.Speeds":  profile.Speeds,
		"profile.Gone":    profile.Gone,
		"profile.Peak":    profile.Peak,
		"profile.Reach":   profile.Reach,
		"motion.Start":    motion.Start,
		"motion.Check":    motion.Check,
		"motion.Step":     motion.Step,
		"motion.Run":      motion.Run,
		"motion.Left":     motion.Left,
		"motion.Path":     motion.Path,
		"motion.Stop":     motion.Stop,
		"motion.Nearest":  motion.Nearest,
		"motion.Turn":     motion.Turn,
		"brake.New":       brake.New,
		"brake.Check":     brake.Check,
		"brake.Release":   brake.Release,
		"brake.Apply":     brake.Apply,
		"brake.Step":      brake.Step,
		"brake.Run":       brake.Run,
		"brake.Force":     brake.Force,
		"brake.Free":      brake.Free,
		"brake.Ends":      brake.Ends,
		"brake.States":    brake.States,
		"load.Check":      load.Check,
		"load.Band":       load.Band,
		"load.Held":       load.Held,
		"load.Run":        load.Run,
		"load.Changes":    load.Changes,
		"load.Total":      load.Total,
		"load.Tare":       load.Tare,
		"load.Fit":        load.Fit,
		"sensor.Check":    sensor.Check,
		"sensor.Read":     sensor.Read,
		"sensor.Vote":     sensor.Vote,
		"sensor.Odd":      sensor.Odd,
		"sensor.Faults":   sensor.Faults,
		"sensor.Works":    sensor.Works,
		"drive.At":        drive.At,
		"drive.Check":     drive.Check,
		"drive.Go":        drive.Go,
		"drive.Step":      drive.Step,
		"drive.Halt":      drive.Halt,
		"drive.Needs":     drive.Needs,
		"drive.Ticks":     drive.Ticks,
		"drive.Run":       drive.Run,
		"limit.Check":     limit.Check,
		"limit.Causes":    limit.Causes,
		"limit.Watch":     limit.Watch,
		"limit.Counts":    limit.Counts,
		"limit.Jumps":     limit.Jumps,
		"limit.Stops":     limit.Stops,
		"move.Ticks":      move.Ticks,
		"move.Check":      move.Check,
		"move.Begin":      move.Begin,
		"move.Wait":       move.Wait,
		"move.Step":       move.Step,
		"move.Stop":       move.Stop,
		"move.Over":       move.Over,
		"move.Run":        move.Run,
		"panel.New":       panel.New,
		"panel.Check":     panel.Check,
		"panel.Order":     panel.Order,
		"panel.Step":      panel.Step,
		"panel.Run":       panel.Run,
		"panel.Left":      panel.Left,
		"panel.Swing":     panel.Swing,
		"panel.Least":     panel.Least,
		"panel.Orders":    panel.Orders,
		"lock.New":        lock.New,
		"lock.Check":      lock.Check,
		"lock.Unlock":     lock.Unlock,
		"lock.Lock":       lock.Lock,
		"lock.Slam":       lock.Slam,
		"lock.May":        lock.May,
		"lock.Missing":    lock.Missing,
		"lock.Open":       lock.Open,
		"lock.Of":         lock.Of,
		"lock.Text":       lock.Text,
		"lock.Parse":      lock.Parse,
		"door.Rule":       door.Rule,
		"door.Check":      door.Check,
		"door.Open":       door.Open,
		"door.Step":       door.Step,
		"door.Force":      door.Force,
		"door.Worst":      door.Worst,
		"door.Rest":       door.Rest,
		"door.Run":        door.Run,
		"cycle.Begin":     cycle.Begin,
		"cycle.Check":     cycle.Check,
		"cycle.Step":      cycle.Step,
		"cycle.Force":     cycle.Force,
		"cycle.Left":      cycle.Left,
		"cycle.Panels":    cycle.Panels,
		"cycle.Forced":    cycle.Forced,
		"call.Check":      call.Check,
		"call.Same":       call.Same,
		"call.Compare":    call.Compare,
		"call.Serves":     call.Serves,
		"call.Age":        call.Age,
		"call.Sort":       call.Sort,
		"call.Merge":      call.Merge,
		"call.Text":       call.Text,
		"call.Parse":      call.Parse,
		"table.New":       table.New,
		"table.Check":     table.Check,
		"table.Put":       table.Put,
		"table.Serve":     table.Serve,
		"table.Wipe":      table.Wipe,
		"table.Oldest":    table.Oldest,
		"table.Halls":     table.Halls,
		"table.Of":        table.Of,
		"table.Urgent":    table.Urgent,
		"key.New":         key.New,
		"key.Check":       key.Check,
		"key.Present":     key.Present,
		"key.Valid":       key.Valid,
		"key.Left":        key.Left,
		"key.Stretches":   key.Stretches,
		"key.Covers":      key.Covers,
		"mode.New":        mode.New,
		"mode.Check":      mode.Check,
		"mode.Get":        mode.Get,
		"mode.Set":        mode.Set,
		"mode.Allows":     mode.Allows,
		"mode.First":      mode.First,
		"mode.Count":      mode.Count,
		"mode.Text":       mode.Text,
		"mode.Parse":      mode.Parse,
		"port.Domain":     port.Domain,
		"port.Ports":      port.Ports,
		"port.Fits":       port.Fits,
		"port.Judge":      port.Judge,
		"port.Data":       port.Data,
		"port.Split":      port.Split,
		"port.Codes":      port.Codes,
		"slice.Check":     slice.Check,
		"slice.Slot":      slice.Slot,
		"slice.Domain":    slice.Domain,
		"slice.Cars":      slice.Cars,
		"slice.Slots":     slice.Slots,
		"slice.Next":      slice.Next,
		"slice.Wait":      slice.Wait,
		"slice.Share":     slice.Share,
		"phase.Check":     phase.Check,
		"phase.Trips":     phase.Trips,
		"phase.Slots":     phase.Slots,
		"phase.Of":        phase.Of,
		"phase.Tick":      phase.Tick,
		"phase.First":     phase.First,
		"phase.Decision":  phase.Decision,
		"phase.Length":    phase.Length,
		"phase.Next":      phase.Next,
		"phase.Count":     phase.Count,
		"config.Check":    config.Check,
		"config.Times":    config.Times,
		"config.Ports":    config.Ports,
		"config.Home":     config.Home,
		"config.Longest":  config.Longest,
		"config.Spare":    config.Spare,
		"config.Text":     config.Text,
		"config.Parse":    config.Parse,
		"pick.Check":      pick.Check,
		"pick.Hall":       pick.Hall,
		"pick.Own":        pick.Own,
		"pick.By":         pick.By,
		"pick.Goal":       pick.Goal,
		"pick.Order":      pick.Order,
		"assign.Check":    assign.Check,
		"assign.All":      assign.All,
		"assign.Urgent":   assign.Urgent,
		"assign.Left":     assign.Left,
		"assign.Twice":    assign.Twice,
		"assign.Serve":    assign.Serve,
		"assign.Plan":     assign.Plan,
		"purge.Check":     purge.Check,
		"purge.Word":      purge.Word,
		"purge.Over":      purge.Over,
		"purge.Clean":     purge.Clean,
		"purge.Wiped":     purge.Wiped,
		"purge.Bits":      purge.Bits,
		"purge.Slots":     purge.Slots,
		"car.New":         car.New,
		"car.Check":       car.Check,
		"car.Hear":        car.Hear,
		"car.Ready":       car.Ready,
		"car.Choose":      car.Choose,
		"car.Step":        car.Step,
		"car.Sight":       car.Sight,
		"car.Floor":       car.Floor,
		"scrub.Check":     scrub.Check,
		"scrub.Show":      scrub.Show,
		"scrub.All":       scrub.All,
		"scrub.Differ":    scrub.Differ,
		"scrub.Same":      scrub.Same,
		"scrub.Text":      scrub.Text,
		"scrub.Parse":     scrub.Parse,
		"word.Of":         word.Of,
		"word.Series":     word.Series,
		"word.Cars":       word.Cars,
		"word.Make":       word.Make,
		"word.Merge":      word.Merge,
		"word.Differ":     word.Differ,
		"word.Text":       word.Text,
		"word.Parse":      word.Parse,
		"script.One":      script.One,
		"script.Check":    script.Check,
		"script.Text":     script.Text,
		"script.Parse":    script.Parse,
		"script.At":       script.At,
		"script.Cut":      script.Cut,
		"script.Join":     script.Join,
		"script.Without":  script.Without,
		"script.Faults":   script.Faults,
		"domain.New":      domain.New,
		"domain.Check":    domain.Check,
		"domain.Belongs":  domain.Belongs,
		"domain.Step":     domain.Step,
		"domain.Ready":    domain.Ready,
		"domain.Open":     domain.Open,
		"plant.New":       plant.New,
		"plant.Check":     plant.Check,
		"plant.One":       plant.One,
		"plant.Tick":      plant.Tick,
		"plant.Go":        plant.Go,
		"plant.Cycle":     plant.Cycle,
		"plant.Run":       plant.Run,
		"plant.Still":     plant.Still,
		"plant.Floors":    plant.Floors,
		"trace.Check":     trace.Check,
		"trace.Text":      trace.Text,
		"trace.Parse":     trace.Parse,
		"trace.Changes":   trace.Changes,
		"trace.First":     trace.First,
		"trace.Same":      trace.Same,
		"trace.Codes":     trace.Codes,
		"trace.Part":      trace.Part,
		"product.Check":   product.Check,
		"product.Split":   product.Split,
		"product.Merge":   product.Merge,
		"product.One":     product.One,
		"product.Views":   product.Views,
		"product.Last":    product.Last,
		"product.Differ":  product.Differ,
		"guard.Check":     guard.Check,
		"guard.Cars":      guard.Cars,
		"guard.Calls":     guard.Calls,
		"guard.All":       guard.All,
		"guard.Handover":  guard.Handover,
		"guard.Shown":     guard.Shown,
		"guard.Sights":    guard.Sights,
		"guard.Text":      guard.Text,
		"bound.Share":     bound.Share,
		"bound.Ticks":     bound.Ticks,
		"bound.Calls":     bound.Calls,
		"bound.Waits":     bound.Waits,
		"bound.Wait":      bound.Wait,
		"bound.Good":      bound.Good,
		"bound.Late":      bound.Late,
		"flow.Project":    flow.Project,
		"flow.Rest":       flow.Rest,
		"flow.Words":      flow.Words,
		"flow.Agree":      flow.Agree,
		"flow.Differ":     flow.Differ,
		"flow.Mix":        flow.Mix,
		"report.Check":    report.Check,
		"report.Count":    report.Count,
		"report.Spells":   report.Spells,
		"report.Longest":  report.Longest,
		"report.Lights":   report.Lights,
		"report.Visits":   report.Visits,
		"report.Changes":  report.Changes,
		"bench.Run":       bench.Run,
		"bench.Compare":   bench.Compare,
		"bench.Judge":     bench.Judge,
		"bench.Apart":     bench.Apart,
		"bench.Needless":  bench.Needless,
		"bench.Shrink":    bench.Shrink,
		"bench.Count":     bench.Count,
	}
}

const most = 1<<63 - 1

// maker makes arguments: mostly small and often valid ones, sometimes extreme ones.
type maker struct {
	*rand.Rand
}

func (m maker) int() int {
	l := []int{0, 0, 1, 1, 2, 3, -1, 4, 5, 7, 10, 20, 21, 63, 64, 100, 1000, 1 << 40, 1<<40 + 1, most, -most - 1, most - 1, -most}
	if m.Intn(3) > 0 {
		return m.Intn(9)
	}
	return l[m.Intn(len(l))]
}

func (m maker) text() string {
	l := []string{"", "none", "0-3,7", "a 1 \"b\"\n", "x|xxo", "u3@5", "c2:1@9", "nn/os/nr", "41 42", "<Ph2,1;00>", "1:3", "out", "-", "101", "length 9\nobstruct 1 1\n", "length 30\nport 3 4 \"<Ph1,1;00>\"\n", "length 9\nport 3 4 \"hi\"\n", "from 5 1\nat 6\nup 3\nto 7\n", "floors 3\ncars 1", "\xff\x00", "é\u0085"}
	conf, _ := config.Text(plain())
	if m.Intn(4) == 0 {
		return conf
	}
	s := l[m.Intn(len(l))]
	if m.Intn(4) == 0 && s != "" {
		b := []byte(s)
		b[m.Intn(len(b))] = byte(m.Intn(256))
		s = string(b)
	}
	return s
}

func plain() api.Config {
	return api.Config{
		Floors: 3, Gaps: []int{4, 4}, Cars: 2, Speed: 2, Brake: 1, Width: 1, Dwell: 1, Retries: 1, Trips: 1, Slots: 2, Life: 50, Full: 100,
		Rota: [][]int{{1, 2}, {3, 0}}, Rules: [3]api.Rule{{Mask: 7, Calls: 4}, {Mask: 7, Calls: 4}, {Mask: 7, Calls: 4}}, Keys: []int{7},
	}
}

func (m maker) config() api.Config {
	c := plain()
	if m.Intn(5) == 0 {
		f := reflect.ValueOf(&c).Elem().Field(m.Intn(17))
		f.Set(m.value(f.Type()))
	}
	return c
}

// seeds are valid values of a type, for the types of which hardly any random value is valid.
func (m maker) seeds(t reflect.Type) []any {
	if t.Kind() != reflect.Struct && t.Kind() != reflect.Slice {
		return nil
	}
	c := plain()
	call := []api.Call{{Kind: 1, Floor: 2}, {Kind: 3, Floor: 1, Car: 1, At: 1}, {Kind: 2, Floor: 1, At: 3}}
	view := api.View{Tick: 5, Sights: make([]api.Sight, 2), Up: 4, Replies: []api.Reply{{Code: 1}}, Word: -1}
	next := view
	next.Tick, next.Down, next.Word = 6, 1, 3
	entry := func(tick, car, what int) api.Entry {
		return api.Entry{Tick: tick, Kind: api.AtCar, Car: car, What: what}
	}
	entries := []api.Entry{{Kind: api.AtPort, Port: 3, Data: "<Ph2,1;00>"}, {Tick: 1, Kind: api.AtPort, Data: "x"}, entry(1, 1, 2), entry(1, 2, 1), entry(8, 1, 4)}
	switch t {
	case reflect.TypeFor[api.Times]():
		return []any{api.Times{Move: 5, Door: 3, Trip: 8, Slot: 29, Cycle: 58}}
	case reflect.TypeFor[api.Phase]():
		return []any{api.Phase{Part: 1}, api.Phase{Part: 2}, api.Phase{Part: 3}, api.Phase{Part: 4, At: 1}, api.Phase{Part: 5}}
	case reflect.TypeFor[api.Modes]():
		return []any{api.Modes{Cars: 2, Of: [3][]int{{0, 1}, {2, 3}, {0, 0}}}}
	case reflect.TypeFor[api.Table]():
		return []any{api.Table{Cap: 4, Calls: call}, api.Table{Cap: 4}, api.Table{Cap: 3, Calls: call}}
	case reflect.TypeFor[api.Ring]():
		return []any{api.Ring{Cap: 4, Next: 9, L: []api.Held{{Number: 1, What: 2}, {Number: 5, What: 1}}}}
	case reflect.TypeFor[api.Chain]():
		return []any{api.Chain{Car: true, Landings: []bool{true, true}}, api.Chain{Landings: []bool{true, false, true}}}
	case reflect.TypeFor[api.Handover]():
		return []any{api.Handover{Loads: []int{3, 8}, Faulted: []bool{true, false}, In: []bool{true, true}, Tables: []api.Table{{Cap: 4, Calls: call}, {Cap: 1}, {Cap: 2}}}}
	case reflect.TypeFor[api.KeyState]():
		return []any{api.KeyState{Keys: []int{3, 7}, Life: 9, Last: 1}}
	case reflect.TypeFor[[][]int]():
		return []any{[][]int{{1, 2, 3}, {1, 0, 1}}, [][]int{{3, 8}}}
	case reflect.TypeFor[[][]bool]():
		return []any{[][]bool{{true, false}}}
	case reflect.TypeFor[[]api.Body]():
		return []any{[]api.Body{{}, {At: 4, Panel: 1}}, []api.Body{{At: 3, Brake: api.Brake{State: api.BrakeOpen}}, {}}}
	case reflect.TypeFor[api.Body]():
		return []any{api.Body{}, api.Body{At: 4, Panel: 1}, api.Body{At: 1, Speed: 1, Way: 1, Brake: api.Brake{State: api.BrakeOpen}, Motor: true}}
	case reflect.TypeFor[[]api.Order]():
		return []any{[]api.Order{{What: 1}, {}}, []api.Order{{What: 6}, {What: 5}}, []api.Order{{What: 1}, {What: 2, To: 4}}}
	case reflect.TypeFor[api.Script]():
		return []any{api.Script{Length: 9, Entries: entries}, api.Script{Length: 40, Entries: entries}, api.Script{Length: 60}}
	case reflect.TypeFor[[]api.Entry]():
		return []any{entries, entries[:0], []api.Entry{{Kind: api.AtPort, Port: 3, Data: "<Ph2,1;00>"}}}
	case reflect.TypeFor[api.Parts]():
		return []any{api.Parts{Own: []api.Script{{Length: 9, Entries: entries[:2]}, {Length: 9}, {Length: 9}}, Rest: api.Script{Length: 9}}}
	case reflect.TypeFor[[]api.View]():
		return []any{[]api.View{view, next}, []api.View{view}, []api.View{next}}
	case reflect.TypeFor[api.Snapshot]():
		g, _ := group.New(c)
		for range m.Intn(70) {
			g.Step(nil)
		}
		return []any{g.Snapshot()}
	case reflect.TypeFor[api.DomainState]():
		var l []any
		for d := 1; d <= 3; d++ {
			x, _ := domain.New(c, d)
			x.Now = 5
			x.Table.Calls = call
			l = append(l, x)
		}
		return l
	case reflect.TypeFor[api.CarState]():
		s, _ := car.New(c, true)
		f := s
		f.Faulted = true
		return []any{s, f}
	case reflect.TypeFor[[]api.Ask]():
		return []any{[]api.Ask{{Car: 1, Cycle: 3, Full: 9, Now: 5}, {Car: 2, Cycle: 3, Full: 9, Now: 5}}}
	case reflect.TypeFor[api.Ask]():
		return []any{api.Ask{Car: 1, Cycle: 3, Full: 9, Now: 5, Taken: call[:1]}}
	case reflect.TypeFor[[]api.Row](), reflect.TypeFor[api.RowWord]():
		rows, _ := row.Rows("a 1 \"x\"\nb\n")
		if t == reflect.TypeFor[[]api.Row]() {
			return []any{rows}
		}
		return []any{rows[0].Words[0], rows[0].Words[1], rows[0].Words[2]}
	}
	return nil
}

// value makes a value of any type of a parameter.
func (m maker) value(t reflect.Type) reflect.Value {
	v := reflect.New(t).Elem()
	if l := m.seeds(t); len(l) > 0 && m.Intn(5) > 0 {
		v.Set(copied(reflect.ValueOf(l[m.Intn(len(l))])))
		return v
	}
	switch {
	case t == reflect.TypeFor[api.Config]():
		v.Set(reflect.ValueOf(m.config()))
		return v
	case t == reflect.TypeFor[api.Snapshot]():
		v.Set(reflect.ValueOf(api.Snapshot{Config: m.config(), Tick: m.int(), Bodies: make([]api.BodyView, 2), Tables: []api.Table{{Cap: 4}, {Cap: 4}, {Cap: m.int()}}}))
		return v
	}
	switch t.Kind() {
	case reflect.Bool:
		v.SetBool(m.Intn(2) == 0)
	case reflect.Int:
		v.SetInt(int64(m.int()))
	case reflect.Uint8, reflect.Uint64:
		v.SetUint(uint64(m.int()) & (1<<uint(t.Bits()-1)*2 - 1))
	case reflect.String:
		v.SetString(m.text())
	case reflect.Struct:
		for i := range t.NumField() {
			if m.Intn(3) > 0 {
				v.Field(i).Set(m.value(t.Field(i).Type))
			}
		}
	case reflect.Array:
		for i := range t.Len() {
			v.Index(i).Set(m.value(t.Elem()))
		}
	case reflect.Slice:
		n := m.Intn(4)
		if m.Intn(30) == 0 {
			n = 70
		}
		v.Set(reflect.MakeSlice(t, n, n+m.Intn(3)))
		for i := range n {
			v.Index(i).Set(m.value(t.Elem()))
		}
	}
	return v
}

// copied copies a value with all that it refers to.
func copied(v reflect.Value) reflect.Value {
	c := reflect.New(v.Type()).Elem()
	switch v.Kind() {
	case reflect.Struct:
		for i := range v.NumField() {
			c.Field(i).Set(copied(v.Field(i)))
		}
	case reflect.Array:
		for i := range v.Len() {
			c.Index(i).Set(copied(v.Index(i)))
		}
	case reflect.Slice:
		if !v.IsNil() {
			c.Set(reflect.MakeSlice(v.Type(), v.Len(), v.Len()))
		}
		for i := range v.Len() {
			c.Index(i).Set(copied(v.Index(i)))
		}
	default:
		c.Set(v)
	}
	return c
}

// spoil overwrites all that a value refers to.
func spoil(v reflect.Value) {
	switch v.Kind() {
	case reflect.Struct:
		for i := range v.NumField() {
			spoil(v.Field(i))
		}
	case reflect.Array:
		for i := range v.Len() {
			spoil(v.Index(i))
		}
	case reflect.Slice:
		v = v.Slice(0, v.Cap())
		for i := range v.Len() {
			spoil(v.Index(i))
			v.Index(i).Set(zeroOther(v.Index(i).Type()))
		}
	}
}

func zeroOther(t reflect.Type) reflect.Value {
	v := reflect.New(t).Elem()
	switch t.Kind() {
	case reflect.Int:
		v.SetInt(-77)
	case reflect.Bool:
		v.SetBool(true)
	}
	return v
}

func isEmpty(v reflect.Value) bool {
	return v.IsZero() || v.Kind() == reflect.Slice && v.Len() == 0
}

// failed reports whether one of the results is an error.
func failed(out []reflect.Value) bool {
	for _, v := range out {
		switch e := v.Interface().(type) {
		case api.Errno:
			if e != api.OK {
				return true
			}
		case api.Fault:
			if e.Err != api.OK {
				return true
			}
		}
	}
	return false
}

// places are the functions whose other results mean something with an error, too.
var places = map[string]bool{"shaft.Check": true, "ring.Check": true, "table.Check": true, "slice.Check": true, "assign.Check": true, "plant.Check": true, "plant.Tick": true, "plant.Run": true, "trace.Check": true, "report.Check": true}

func TestP1_R3_R4(t *testing.T) {
	m := maker{rand.New(rand.NewSource(1))}
	for name, f := range all() {
		fn := reflect.ValueOf(f)
		good := 0
		for range 200 {
			var in, before []reflect.Value
			for i := range fn.Type().NumIn() {
				in = append(in, m.value(fn.Type().In(i)))
				before = append(before, copied(in[i]))
			}
			out := fn.Call(in)
			again := fn.Call(in)
			for i := range out {
				if !reflect.DeepEqual(out[i].Interface(), again[i].Interface()) {
					t.Fatal(name, "is not a function of its arguments")
				}
				_, isErr := out[i].Interface().(api.Errno)
				_, isFault := out[i].Interface().(api.Fault)
				if failed(out) && !isErr && !isFault && !places[name] && !isEmpty(out[i]) {
					t.Fatal(name, "has a result with an error", out[i])
				}
			}
			if !failed(out) {
				good++
			}
			for _, v := range out {
				c := reflect.New(v.Type()).Elem()
				c.Set(v)
				spoil(c)
			}
			for i := range in {
				if !reflect.DeepEqual(copied(in[i]).Interface(), before[i].Interface()) {
					t.Fatal(name, "changes or shares its argument", i)
				}
			}
			for i := range out {
				if !reflect.DeepEqual(again[i].Interface(), copied(again[i]).Interface()) {
					t.Fatal(name)
				}
			}
		}
		if good == 0 {
			t.Log(name, "had an error each time")
		}
	}
}
