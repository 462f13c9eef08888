package tests

import (
	"slices"
	"testing"

	"loop.example/g00084/impl"
)

func submit(op impl.Op) impl.Move { return impl.Move{Kind: impl.MoveSubmit, Op: op} }
func run(slot int) impl.Move      { return impl.Move{Kind: impl.MoveRun, Slot: slot} }
func abort(slot int) impl.Move    { return impl.Move{Kind: impl.MoveAbort, Slot: slot} }

func submits(ops ...impl.Op) []impl.Move {
	var moves []impl.Move
	for _, op := range ops {
		moves = append(moves, submit(op))
	}
	return moves
}

// runs are so many steps of one task.
func runs(slot, many int) []impl.Move { return slices.Repeat([]impl.Move{run(slot)}, many) }

// moves puts moves and lists of moves behind each other.
func moves(parts ...any) []impl.Move {
	var all []impl.Move
	for _, part := range parts {
		switch m := part.(type) {
		case impl.Move:
			all = append(all, m)
		case []impl.Move:
			all = append(all, m...)
		default:
			panic("no move")
		}
	}
	return all
}

func asks(keys ...int) []impl.Ask {
	var l []impl.Ask
	for _, key := range keys {
		l = append(l, impl.Ask{Key: key})
	}
	return l
}

func sharedAsks(keys ...int) []impl.Ask {
	l := asks(keys...)
	for i := range l {
		l[i].Shared = true
	}
	return l
}

// twoBookings has three sailings, each with a lane of 500, four berths of class 1 and 10 people; Ann's booking sails on 1 and 2, Bo's is held on 2.
func twoBookings(t *testing.T) impl.Office {
	t.Helper()
	o := told(t, newOffice(t, chain(0, 0, 0)...), 1, book("Ann", everything(), 1, 2), 1, 260)
	o = told(t, o, 2, hold("Bo", 50, withBerths(people(2), 1, 2), 2), 2, 140)
	wantLoads(t, o,
		impl.Load{Stays: []impl.Stay{stay(1, 0, 100, 100)}, Rooms: []impl.Room{berths(1, 0, 1)}, Seats: []impl.Seat{seat(1, 1)}},
		impl.Load{Stays: []impl.Stay{stay(1, 0, 100, 100)}, Rooms: []impl.Room{berths(1, 0, 1), berths(2, 0, 2)}, Seats: []impl.Seat{seat(1, 1), seat(2, 2)}})
	return o
}

func sameOp(a, b impl.Op) bool {
	return a.Kind == b.Kind && a.Owner == b.Owner && a.Name == b.Name && slices.Equal(a.Legs, b.Legs) && a.Party == b.Party && a.Until == b.Until && a.Now == b.Now
}

func sameTask(a, b impl.Task) bool {
	notes := slices.EqualFunc(a.Notes, b.Notes, func(x, y impl.Note) bool {
		return x.Sailing == y.Sailing && x.Resource == y.Resource && sameLoads([]impl.Load{x.Was}, []impl.Load{y.Was})
	})
	return notes && a.Slot == b.Slot && a.By == b.By && sameOp(a.Op, b.Op) && a.Stage == b.Stage && slices.Equal(a.Asks, b.Asks) &&
		a.At == b.At && a.Code == b.Code && a.Steps == b.Steps
}

func sameDone(a, b impl.Done) bool {
	return a.By == b.By && sameOp(a.Op, b.Op) && sameAnswer(a.Answer, b.Answer)
}

// sameDesk holds the empty list and the nil list for the same.
func sameDesk(a, b impl.Desk) bool {
	return a.Next == b.Next && sameLocks(a.Locks, b.Locks) && slices.EqualFunc(a.Tasks, b.Tasks, sameTask) &&
		slices.EqualFunc(a.Done, b.Done, sameDone) && sameOffice(a.Office, b.Office)
}

// copyDesk shares the operations, Asks, Notes and answers: nothing is written into these.
func copyDesk(d impl.Desk) impl.Desk {
	d.Office, d.Locks = copyOffice(d.Office), copyLocks(d.Locks)
	d.Tasks, d.Done = slices.Clone(d.Tasks), slices.Clip(slices.Clone(d.Done))
	for i := range d.Tasks {
		d.Tasks[i].Notes = slices.Clip(d.Tasks[i].Notes)
	}
	return d
}

// checkMoves holds all that is answered to the moves against the words.
func checkMoves(t *testing.T, o impl.Office, m []impl.Move) deskAnswers {
	t.Helper()
	var op impl.Op
	if len(m) > 0 {
		op = m[len(m)-1].Op
	}
	got, want := askDesk(o, m, op), deskInWords(o, m, op)
	if inWords(got) != inWords(want) {
		t.Fatalf("%+v:\n%+v\nand by the words\n%+v", m, got, want)
	}
	return got
}

// played is the desk behind moves that all have the code 0.
func played(t *testing.T, o impl.Office, m []impl.Move) impl.Desk {
	t.Helper()
	r := checkMoves(t, o, m)
	if !r.Played || slices.ContainsFunc(r.Codes, func(code int) bool { return code != 0 }) {
		t.Fatal(m, r.Codes, r.Played)
	}
	return r.Desk
}

// refusedMove asks that the last of the moves has the code, and does nothing.
func refusedMove(t *testing.T, o impl.Office, ahead []impl.Move, last impl.Move, code int) {
	t.Helper()
	was := checkMoves(t, o, ahead)
	now := checkMoves(t, o, moves(ahead, last))
	if !now.Played || len(now.Codes) != len(ahead)+1 || now.Codes[len(ahead)] != code {
		t.Fatalf("%+v: %v, %v, not %d", last, now.Codes, now.Played, code)
	}
	if !sameDesk(was.Desk, now.Desk) {
		t.Fatalf("%+v: the desk was\n%+v, and is\n%+v", last, was.Desk, now.Desk)
	}
}

// wantTasks looks at the stages of the tasks, by their slots.
func wantTasks(t *testing.T, d impl.Desk, stages map[int]int) {
	t.Helper()
	if len(d.Tasks) != len(stages) {
		t.Fatalf("the tasks are %+v", d.Tasks)
	}
	for _, k := range d.Tasks {
		if stages[k.Slot] != k.Stage {
			t.Fatalf("slot %d is in stage %d, not %d", k.Slot, k.Stage, stages[k.Slot])
		}
	}
}

func wantReady(t *testing.T, o impl.Office, m []impl.Move, slots ...int) {
	t.Helper()
	if ready, good := impl.ReadyAfter(o, m); !good || !slices.Equal(ready, slots) {
		t.Fatalf("ready are %v, %v, not %v", ready, good, slots)
	}
}

func wantDeskLocks(t *testing.T, d impl.Desk, want ...impl.Lock) {
	t.Helper()
	if !sameLocks(d.Locks, want) {
		t.Fatalf("the locks are\n%+v, not\n%+v", d.Locks, want)
	}
}

// wantDone looks at the Bys and the answers of all that is done.
func wantDone(t *testing.T, d impl.Desk, want ...impl.Done) {
	t.Helper()
	if !slices.EqualFunc(d.Done, want, sameDone) {
		t.Fatalf("done is\n%+v, not\n%+v", d.Done, want)
	}
}

// state is what a step leaves of a task: the stage, At, how many Notes, and the code.
type state struct{ stage, at, notes, code int }

// change is a work: what stands in a sailing's list of the resource behind it.
type change struct {
	sailing, resource int
	is                impl.Load
}

// oneRun is a task that runs alone: its asks, its works, the states behind all steps but the last, and the answer.
type oneRun struct {
	op     impl.Op
	asks   []impl.Ask
	works  []change
	states []state
	answer impl.Answer
}

func states(parts ...[]state) []state { return slices.Concat(parts...) }

func begun(stage int) []state { return []state{{stage, 0, 0, 0}} }

// locked are the steps that ask for so many locks.
func locked(many int) []state {
	var l []state
	for at := 1; at < many; at++ {
		l = append(l, state{impl.StageLocks, at, 0, 0})
	}
	return append(l, state{impl.StageWorks, 0, 0, 0})
}

// worked are the steps that do so many works.
func worked(many int) []state {
	var l []state
	for at := 1; at <= many; at++ {
		l = append(l, state{impl.StageWorks, at, at, 0})
	}
	return l
}

// turned is the step that turns back, and those that take so many works back.
func turned(many, code int) []state {
	var l []state
	for notes := many; notes >= 0; notes-- {
		l = append(l, state{impl.StageBack, 0, notes, code})
	}
	return l
}

// behind are the Loads behind so many of the works, and the Notes of these.
func (x oneRun) behind(o impl.Office, many int) ([]impl.Load, []impl.Note) {
	loads := copyOffice(o).Loads
	var notes []impl.Note
	for _, w := range x.works[:many] {
		at := slices.IndexFunc(o.Sailings, func(s impl.Sailing) bool { return s.Id == w.sailing })
		notes = append(notes, impl.Note{Sailing: w.sailing, Resource: w.resource, Was: justByWords(loads[at], w.resource)})
		putListByWords(&loads[at], w.resource, w.is)
	}
	return loads, notes
}

// keys are those that the task holds in a state.
func (x oneRun) keys(s state) []int {
	var keys []int
	if x.op.Name > 0 && s.stage != impl.StageBegin {
		keys = append(keys, x.op.Name)
	}
	many := len(x.asks)
	if s.stage <= impl.StageNamed {
		many = 0
	} else if s.stage == impl.StageLocks {
		many = s.at
	}
	for _, a := range x.asks[:many] {
		keys = append(keys, a.Key)
	}
	return keys
}

func (x oneRun) asksIn(s state) []impl.Ask {
	if s.stage <= impl.StageNamed {
		return nil
	}
	return x.asks
}

// check plays the run step by step; it gives the office behind it.
func (x oneRun) check(t *testing.T, o impl.Office) impl.Office {
	t.Helper()
	all := append([]state{{impl.StageBegin, 0, 0, 0}}, x.states...)
	for steps, s := range all {
		m := moves(submit(x.op), runs(0, steps))
		d := played(t, o, m)
		loads, notes := x.behind(o, s.notes)
		want := impl.Task{By: 5000, Op: x.op, Stage: s.stage, Asks: x.asksIn(s), At: s.at, Notes: notes, Code: s.code, Steps: steps}
		if len(d.Tasks) != 1 || !sameTask(d.Tasks[0], want) {
			t.Fatalf("%+v, behind %d steps:\n%+v, not\n%+v", x.op, steps, d.Tasks, want)
		}
		if !sameLoads(d.Office.Loads, loads) || !sameBookings(d.Office.Bookings, o.Bookings) || d.Next != 5001 || len(d.Done) > 0 {
			t.Fatalf("%+v, behind %d steps: %+v, and the Loads are to be\n%+v", x.op, steps, d, loads)
		}
		if keys, good := impl.KeysOf(d.Locks, 0); !good || !slices.Equal(keys, x.keys(s)) {
			t.Fatalf("%+v, behind %d steps, holds %v, not %v", x.op, steps, keys, x.keys(s))
		}
		wantReady(t, o, m, 0)
		x.checkEnd(t, o, m, len(all)-steps)
	}
	m := moves(submit(x.op), runs(0, len(all)))
	refusedMove(t, o, m, run(0), impl.RunNone)
	return x.checkEnd(t, o, m, 0)
}

// checkEnd finishes what is left of the run, then aborts it instead.
func (x oneRun) checkEnd(t *testing.T, o impl.Office, m []impl.Move, left int) impl.Office {
	t.Helper()
	d, steps, good := impl.FinishAfter(o, m)
	if !good || steps != left || len(d.Tasks)+len(d.Locks) > 0 || d.Next != 5001 {
		t.Fatalf("%+v: finished by %d steps, not %d: %+v", x.op, steps, left, d)
	}
	wantDone(t, d, impl.Done{By: 5000, Op: x.op, Answer: x.answer})
	then, a, good := impl.DoOp(o, 5000, x.op)
	if !good || !sameAnswer(a, x.answer) || !sameOffice(then, d.Office) {
		t.Fatalf("%+v: at once it is\n%+v, %+v, %v, and step by step\n%+v", x.op, then, a, good, d)
	}
	if most := impl.MostSteps(x.op); len(x.states)+1 > most {
		t.Fatalf("%+v: more than %d steps", x.op, most)
	}
	gone, good := impl.AbortAfter(o, m)
	if !good || len(gone.Tasks)+len(gone.Locks) > 0 || left > 0 && len(gone.Done) > 0 || left > 0 && !sameOffice(gone.Office, o) {
		t.Fatalf("%+v: aborted: %+v, %v", x.op, gone, good)
	}
	return d.Office
}
