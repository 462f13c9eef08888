package tests

import (
	"maps"
	"slices"
	"strings"

	"loop.example/g00084/impl"
)

// Chapter 8 told a second time: the desk is what is told of it at any time, locks are those of the second telling of chapter 2, and what an operation does to the Bookings is asked of the second telling of chapter 7, which does it at once.

// workByWords is a work: it changes a list of a Load, or has a code.
type workByWords struct {
	sailing, resource int
	do                func(s impl.Sailing, l *impl.Load) int
}

func resourcesByWords(p impl.Party) []int {
	var has []int
	if hasCar(p) {
		has = append(has, 0)
	}
	if hasCabin(p) {
		has = append(has, 1)
	}
	return append(has, 2)
}

// goesByWords takes away what the by has of one resource.
func goesByWords(by, resource int) func(s impl.Sailing, l *impl.Load) int {
	return func(_ impl.Sailing, l *impl.Load) int {
		only := impl.Office{Loads: []impl.Load{justByWords(*l, resource)}}
		dropByWords(&only, by)
		putListByWords(l, resource, only.Loads[0])
		return 0
	}
}

// comesByWords places what a party has of one resource.
func comesByWords(by, resource int, p impl.Party) func(s impl.Sailing, l *impl.Load) int {
	return func(s impl.Sailing, l *impl.Load) int {
		var then impl.Load
		good := false
		switch {
		case resource == 0:
			then.Stays, _, good = placeByWords(s.Lanes, l.Stays, by, p.Length, p.Height)
		case resource == 1 && p.Whole:
			then.Rooms, _, good = wholeByWords(s.Cabins, l.Rooms, by, p.Class, p.People)
		case resource == 1:
			then.Rooms, _, good = berthsByWords(s.Cabins, l.Rooms, by, p.Class, p.Berths)
		default:
			then.Seats, good = takeSeatsByWords(s.Most, l.Seats, by, p.People)
		}
		if !good {
			return 5 + resource
		}
		putListByWords(l, resource, then)
		return 0
	}
}

func worksByWords(o impl.Office, by int, op impl.Op) []workByWords {
	var all []workByWords
	if op.Kind == 5 || op.Kind == 6 || op.Kind == 8 {
		b := o.Bookings[op.Name-1]
		for _, leg := range b.Legs {
			for _, resource := range resourcesByWords(b.Party) {
				all = append(all, workByWords{leg, resource, goesByWords(b.By, resource)})
			}
		}
	}
	if op.Kind == 1 || op.Kind == 2 || op.Kind == 3 || op.Kind == 5 {
		for _, leg := range op.Legs {
			for _, resource := range resourcesByWords(op.Party) {
				all = append(all, workByWords{leg, resource, comesByWords(by, resource, op.Party)})
			}
		}
	}
	return all
}

// asksToDoByWords is AsksOf where no code stands in the way.
func asksToDoByWords(o impl.Office, op impl.Op) []impl.Ask {
	keys := map[int]bool{}
	for _, w := range worksByWords(o, 1, op) {
		keys[1000+3*w.sailing+w.resource] = false
	}
	for resource := 0; op.Kind == 9 && resource < 3; resource++ {
		keys[1000+3*op.Legs[0]+resource] = true
	}
	var asks []impl.Ask
	for _, key := range slices.Sorted(maps.Keys(keys)) {
		asks = append(asks, impl.Ask{Key: key, Shared: keys[key]})
	}
	return asks
}

func asksByWords(o impl.Office, op impl.Op) ([]impl.Ask, bool) {
	if !goodOfficeByWords(o) || codeAheadByWords(o, op) != 0 {
		return nil, false
	}
	return asksToDoByWords(o, op), true
}

// justByWords is a Load with one list, in memory of its own.
func justByWords(l impl.Load, resource int) impl.Load {
	switch resource {
	case 0:
		return impl.Load{Stays: slices.Clone(l.Stays)}
	case 1:
		return impl.Load{Rooms: slices.Clone(l.Rooms)}
	}
	return impl.Load{Seats: slices.Clone(l.Seats)}
}

func putListByWords(l *impl.Load, resource int, list impl.Load) {
	switch resource {
	case 0:
		l.Stays = slices.Clone(list.Stays)
	case 1:
		l.Rooms = slices.Clone(list.Rooms)
	case 2:
		l.Seats = slices.Clone(list.Seats)
	}
}

func sailingAtByWords(o impl.Office, id int) int {
	return slices.IndexFunc(o.Sailings, func(s impl.Sailing) bool { return s.Id == id })
}

// backByWords takes the last Note of some back.
func backByWords(o *impl.Office, notes []impl.Note) []impl.Note {
	n := notes[len(notes)-1]
	putListByWords(&o.Loads[sailingAtByWords(*o, n.Sailing)], n.Resource, n.Was)
	return notes[:len(notes)-1]
}

// atOnceByWords does the whole operation on the office as it was ahead of the task's works.
func atOnceByWords(o impl.Office, k impl.Task) (impl.Office, impl.Answer) {
	ahead := copyOffice(o)
	for notes := k.Notes; len(notes) > 0; {
		notes = backByWords(&ahead, notes)
	}
	switch k.Op.Kind {
	case 2, 3:
		a := newBookingByWords(&ahead, k.By, k.Op)
		return ahead, a
	case 9:
		return ahead, impl.Answer{Rows: rowsByWords(ahead, sailingAtByWords(ahead, k.Op.Legs[0]))}
	}
	a := changeByWords(&ahead, k.By, k.Op)
	return ahead, a
}

// goByWords: the task at this place of the list leaves all locks and goes.
func goByWords(d *impl.Desk, at int) {
	d.Locks, _, _ = leaveByWords(d.Locks, d.Tasks[at].Slot)
	d.Tasks = slices.Delete(d.Tasks, at, at+1)
}

func endByWords(d *impl.Desk, at int, a impl.Answer) {
	d.Done = append(d.Done, impl.Done{By: d.Tasks[at].By, Op: d.Tasks[at].Op, Answer: a})
	goByWords(d, at)
}

func stepByWords(d *impl.Desk, at int) {
	k := &d.Tasks[at]
	k.Steps++
	switch k.Stage {
	case 1, 2:
		beginByWords(d, at)
	case 3:
		a := k.Asks[k.At]
		d.Locks, _, _ = askByWordsOfLocks(d.Locks, k.Slot, a.Key, a.Shared)
		if k.At++; k.At == len(k.Asks) {
			k.Stage, k.At = 4, 0
		}
	case 4:
		workByWordsAt(d, at)
	case 5:
		switch price, _ := priceByWords(k.Op.Party, len(k.Op.Legs)); {
		case len(k.Notes) > 0:
			k.Notes = backByWords(&d.Office, k.Notes)
		case k.Code != 0:
			endByWords(d, at, impl.Answer{Code: k.Code})
		default:
			endByWords(d, at, impl.Answer{Price: price})
		}
	}
}

// beginByWords is the step of the stages ahead of the locks.
func beginByWords(d *impl.Desk, at int) {
	k := &d.Tasks[at]
	code := codeAheadByWords(d.Office, k.Op)
	if code == 1 || code == 2 || code != 0 && k.Stage == 2 {
		endByWords(d, at, impl.Answer{Code: code})
		return
	}
	if k.Stage == 1 && strings.Contains(fieldsByWords[k.Op.Kind], "name") {
		d.Locks, _, _ = askByWordsOfLocks(d.Locks, k.Slot, k.Op.Name, false)
		k.Stage = 2
		return
	}
	k.Asks = asksToDoByWords(d.Office, k.Op)
	k.Stage = 3
	if len(k.Asks) == 0 {
		k.Stage = 4
	}
}

func workByWordsAt(d *impl.Desk, at int) {
	k := &d.Tasks[at]
	if works := worksByWords(d.Office, k.By, k.Op); k.At < len(works) {
		w := works[k.At]
		i := sailingAtByWords(d.Office, w.sailing)
		was := justByWords(d.Office.Loads[i], w.resource)
		if code := w.do(d.Office.Sailings[i], &d.Office.Loads[i]); code != 0 {
			k.Code, k.Stage, k.At = code, 5, 0
			return
		}
		k.Notes = append(k.Notes, impl.Note{Sailing: w.sailing, Resource: w.resource, Was: was})
		k.At++
		return
	}
	if k.Op.Kind == 1 {
		k.Stage, k.At = 5, 0
		return
	}
	then, a := atOnceByWords(d.Office, *k)
	if a.Code != 0 {
		k.Code, k.Stage, k.At = a.Code, 5, 0
		return
	}
	if !sameLoads(then.Loads, d.Office.Loads) {
		panic("the works are not what the operation does at once")
	}
	d.Office.Bookings = then.Bookings
	endByWords(d, at, a)
}

func submitByWords(d *impl.Desk, op impl.Op) int {
	if len(d.Tasks) == 12 {
		return 4
	}
	slot := 0
	for slices.ContainsFunc(d.Tasks, func(k impl.Task) bool { return k.Slot == slot }) {
		slot++
	}
	op.Legs = slices.Clone(op.Legs)
	d.Tasks = append(d.Tasks, impl.Task{Slot: slot, By: d.Next, Op: op, Stage: 1})
	slices.SortFunc(d.Tasks, func(a, b impl.Task) int { return a.Slot - b.Slot })
	d.Next++
	return 0
}

func abortByWords(d *impl.Desk, at int) {
	k := &d.Tasks[at]
	for len(k.Notes) > 0 {
		k.Notes = backByWords(&d.Office, k.Notes)
	}
	goByWords(d, at)
}

func moveByWords(d *impl.Desk, m impl.Move) int {
	at := slices.IndexFunc(d.Tasks, func(k impl.Task) bool { return k.Slot == m.Slot })
	_, waits := waitsAtByWords(d.Locks, m.Slot)
	switch {
	case m.Kind == 1:
		return submitByWords(d, m.Op)
	case m.Kind != 2 && m.Kind != 3:
		return 1
	case at < 0:
		return 2
	case m.Kind == 3:
		abortByWords(d, at)
	case waits:
		return 3
	default:
		stepByWords(d, at)
	}
	return 0
}

func playByWords(o impl.Office, moves []impl.Move) (impl.Desk, []int, bool) {
	if !goodOfficeByWords(o) || len(moves) > 400 || slices.ContainsFunc(o.Bookings, func(b impl.Booking) bool { return b.By > 4999 }) {
		return impl.Desk{}, nil, false
	}
	d := impl.Desk{Office: copyOffice(o), Next: 5000}
	var codes []int
	for _, m := range moves {
		codes = append(codes, moveByWords(&d, m))
	}
	return d, codes, true
}

func readyByWords(d impl.Desk) []int {
	var ready []int
	for _, k := range d.Tasks {
		if _, waits := waitsAtByWords(d.Locks, k.Slot); !waits {
			ready = append(ready, k.Slot)
		}
	}
	return ready
}

// finishByWords gives up where no task is ready.
func finishByWords(d *impl.Desk) int {
	steps := 0
	for ; len(d.Tasks) > 0; steps++ {
		ready := readyByWords(*d)
		if len(ready) == 0 {
			panic("tasks, and none is ready")
		}
		moveByWords(d, impl.Move{Kind: 2, Slot: ready[0]})
	}
	return steps
}

func mostStepsByWords(op impl.Op) int {
	if goodOpByWords(op) {
		return 4 + 9*2*3
	}
	return 1
}

// deskAnswers is all that the functions of chapter 8 answer to the same office, moves and operation.
type deskAnswers struct {
	Asks     []impl.Ask
	AsksOk   bool
	Desk     impl.Desk
	Codes    []int
	Played   bool
	Ready    []int
	ReadyOk  bool
	Finished impl.Desk
	Steps    int
	FinishOk bool
	Aborted  impl.Desk
	AbortOk  bool
	Most     int
}

func askDesk(o impl.Office, moves []impl.Move, op impl.Op) deskAnswers {
	var r deskAnswers
	r.Asks, r.AsksOk = impl.AsksOf(o, op)
	r.Desk, r.Codes, r.Played = impl.PlayMoves(o, moves)
	r.Ready, r.ReadyOk = impl.ReadyAfter(o, moves)
	r.Finished, r.Steps, r.FinishOk = impl.FinishAfter(o, moves)
	r.Aborted, r.AbortOk = impl.AbortAfter(o, moves)
	r.Most = impl.MostSteps(op)
	return r
}

func deskInWords(o impl.Office, moves []impl.Move, op impl.Op) deskAnswers {
	var r deskAnswers
	r.Asks, r.AsksOk = asksByWords(o, op)
	r.Most = mostStepsByWords(op)
	r.Desk, r.Codes, r.Played = playByWords(o, moves)
	r.ReadyOk, r.FinishOk, r.AbortOk = r.Played, r.Played, r.Played
	if !r.Played {
		return r
	}
	r.Ready = readyByWords(r.Desk)
	r.Finished, _, _ = playByWords(o, moves)
	r.Steps = finishByWords(&r.Finished)
	r.Aborted, _, _ = playByWords(o, moves)
	for len(r.Aborted.Tasks) > 0 {
		abortByWords(&r.Aborted, 0)
	}
	return r
}
