package tests

import (
	"math/rand"
	"slices"
	"testing"

	"loop.example/g00084/impl"
)

func TestStepConstants(t *testing.T) {
	for what, c := range map[string][2]int{
		"MaxMoves": {impl.MaxMoves, 400}, "StepsFixed": {impl.StepsFixed, 4}, "StepsPerLeg": {impl.StepsPerLeg, 9}, "FirstBy": {impl.FirstBy, 5000},
		"MoveSubmit": {impl.MoveSubmit, 1}, "MoveRun": {impl.MoveRun, 2}, "MoveAbort": {impl.MoveAbort, 3},
		"StageBegin": {impl.StageBegin, 1}, "StageNamed": {impl.StageNamed, 2}, "StageLocks": {impl.StageLocks, 3}, "StageWorks": {impl.StageWorks, 4}, "StageBack": {impl.StageBack, 5},
		"RunOk": {impl.RunOk, 0}, "RunBad": {impl.RunBad, 1}, "RunNone": {impl.RunNone, 2}, "RunNotReady": {impl.RunNotReady, 3}, "RunFull": {impl.RunFull, 4},
	} {
		if c[0] != c[1] {
			t.Error(what, c[0])
		}
	}
}

func TestNoMoves(t *testing.T) {
	o := twoBookings(t)
	d, codes, good := impl.PlayMoves(o, nil)
	if !good || len(codes) != 0 || d.Next != 5000 || len(d.Tasks)+len(d.Done)+len(d.Locks) > 0 || !sameOffice(d.Office, o) {
		t.Error(d, codes, good)
	}
	if r := checkMoves(t, o, nil); !r.Played || len(r.Ready) != 0 || r.Steps != 0 || !sameOffice(r.Finished.Office, o) || !sameOffice(r.Aborted.Office, o) {
		t.Error(r)
	}
	if r := checkMoves(t, impl.Office{}, nil); !r.Played || r.Desk.Next != 5000 {
		t.Error(r)
	}
}

// Each kind of move, with each code that it may have.
func TestEachKindOfMove(t *testing.T) {
	o := twoBookings(t)
	op := book("Cy", people(1), 3)
	d := played(t, o, submits(op))
	if d.Next != 5001 || len(d.Tasks) != 1 || !sameTask(d.Tasks[0], impl.Task{By: 5000, Op: op, Stage: impl.StageBegin}) {
		t.Errorf("%+v", d)
	}
	d = played(t, o, moves(submit(op), run(0)))
	if len(d.Tasks) != 1 || d.Tasks[0].Steps != 1 || d.Tasks[0].Stage != impl.StageLocks {
		t.Errorf("%+v", d)
	}
	d = played(t, o, moves(submit(op), abort(0)))
	if d.Next != 5001 || len(d.Tasks)+len(d.Done)+len(d.Locks) > 0 || !sameOffice(d.Office, o) {
		t.Errorf("%+v", d)
	}
	for _, kind := range append(numbersFarOut(), 0, 4, 5, 257, 258, 259) {
		refusedMove(t, o, submits(op), impl.Move{Kind: kind, Op: op}, impl.RunBad)
		refusedMove(t, o, nil, impl.Move{Kind: kind}, impl.RunBad)
	}
	for _, slot := range []int{1, 2, 11} {
		refusedMove(t, o, submits(op), run(slot), impl.RunNone)
		refusedMove(t, o, submits(op), abort(slot), impl.RunNone)
	}
	refusedMove(t, o, nil, run(0), impl.RunNone)
	refusedMove(t, o, nil, abort(0), impl.RunNone)
	waiting := moves(submits(op, op), runs(0, 2), runs(1, 2))
	refusedMove(t, o, waiting, run(1), impl.RunNotReady)
	played(t, o, moves(waiting, abort(1)))
	full := submits(slices.Repeat([]impl.Op{op}, 12)...)
	refusedMove(t, o, full, submit(op), impl.RunFull)
	refusedMove(t, o, full, impl.Move{Kind: impl.MoveSubmit, Slot: 3}, impl.RunFull)
}

// A Slot that is given with a submission, an operation that is given with a run, are not looked at.
func TestWhatAMoveDoesNotLookAt(t *testing.T) {
	o := twoBookings(t)
	op := book("Cy", people(1), 3)
	want := played(t, o, moves(submit(op), submit(op), runs(0, 4), run(1), abort(1)))
	for _, odd := range append(numbersFarOut(), 0, 1, 2, 11, 12) {
		got := played(t, o, []impl.Move{
			{Kind: impl.MoveSubmit, Slot: odd, Op: op}, {Kind: impl.MoveSubmit, Slot: odd, Op: op},
			{Kind: impl.MoveRun, Slot: 0, Op: impl.Op{Kind: odd}}, {Kind: impl.MoveRun, Op: impl.Op{Name: odd, Legs: []int{odd}}}, {Kind: impl.MoveRun, Op: cancel(1, 0)}, run(0),
			{Kind: impl.MoveRun, Slot: 1, Op: impl.Op{Kind: odd}}, {Kind: impl.MoveAbort, Slot: 1, Op: impl.Op{Kind: odd}},
		})
		if !sameDesk(got, want) {
			t.Errorf("%d: %+v, not %+v", odd, got, want)
		}
	}
}

// The nine operations, each alone, stage by stage.

func TestAQuoteStepByStep(t *testing.T) {
	o := twoBookings(t)
	stays, rooms, seats := []impl.Stay{stay(5000, 0, 100, 100)}, []impl.Room{berths(5000, 0, 1)}, []impl.Seat{seat(5000, 1)}
	x := oneRun{
		op:    quote(everything(), 3),
		asks:  asks(1009, 1010, 1011),
		works: []change{{3, 0, impl.Load{Stays: stays}}, {3, 1, impl.Load{Rooms: rooms}}, {3, 2, impl.Load{Seats: seats}}},
		states: []state{
			{impl.StageLocks, 0, 0, 0}, {impl.StageLocks, 1, 0, 0}, {impl.StageLocks, 2, 0, 0}, {impl.StageWorks, 0, 0, 0},
			{impl.StageWorks, 1, 1, 0}, {impl.StageWorks, 2, 2, 0}, {impl.StageWorks, 3, 3, 0},
			{impl.StageBack, 0, 3, 0}, {impl.StageBack, 0, 2, 0}, {impl.StageBack, 0, 1, 0}, {impl.StageBack, 0, 0, 0},
		},
		answer: impl.Answer{Price: 130},
	}
	wantOffice(t, x.check(t, o), o)
}

func TestAQuoteAmongOthersStepByStep(t *testing.T) {
	o := twoBookings(t)
	x := oneRun{
		op:   quote(withWhole(people(3), 1), 2, 3),
		asks: asks(1007, 1008, 1010, 1011),
		states: states(begun(impl.StageLocks), locked(4),
			[]state{{impl.StageBack, 0, 0, impl.AnsCabin}}),
		answer: impl.Answer{Code: impl.AnsCabin},
	}
	x.check(t, o)
	x = oneRun{
		op:   quote(withBerths(people(3), 1, 1), 2, 3),
		asks: asks(1007, 1008, 1010, 1011),
		works: []change{
			{2, 1, impl.Load{Rooms: []impl.Room{berths(1, 0, 1), berths(2, 0, 2), berths(5000, 0, 1)}}}, {2, 2, impl.Load{Seats: []impl.Seat{seat(1, 1), seat(2, 2), seat(5000, 3)}}},
			{3, 1, impl.Load{Rooms: []impl.Room{berths(5000, 0, 1)}}}, {3, 2, impl.Load{Seats: []impl.Seat{seat(5000, 3)}}},
		},
		states: states(begun(impl.StageLocks), locked(4), worked(4), turned(4, 0)),
		answer: impl.Answer{Price: 300},
	}
	wantOffice(t, x.check(t, o), o)
}

func TestAHoldStepByStep(t *testing.T) {
	x := oneRun{
		op:     hold("Cy", 70, withCar(people(3), 400, 200), 1),
		asks:   asks(1003, 1005),
		works:  []change{{1, 0, impl.Load{Stays: []impl.Stay{stay(1, 0, 100, 100), stay(5000, 0, 400, 200)}}}, {1, 2, impl.Load{Seats: []impl.Seat{seat(1, 1), seat(5000, 3)}}}},
		states: states(begun(impl.StageLocks), locked(2), worked(2)),
		answer: impl.Answer{Name: 3, Price: 180},
	}
	o := x.check(t, twoBookings(t))
	if b := o.Bookings[2]; inWords(b) != inWords(impl.Booking{Name: 3, By: 5000, Owner: "Cy", Legs: []int{1}, Party: withCar(people(3), 400, 200), State: impl.StateHeld, Until: 70, Price: 180}) {
		t.Errorf("%+v", b)
	}
}

func TestABookingStepByStep(t *testing.T) {
	x := oneRun{
		op:   book("Cy", withWhole(people(1), 1), 3),
		asks: asks(1010, 1011),
		works: []change{
			{3, 1, impl.Load{Rooms: []impl.Room{allOf(5000, 0, 4)}}}, {3, 2, impl.Load{Seats: []impl.Seat{seat(5000, 1)}}},
		},
		states: states(begun(impl.StageLocks), locked(2), worked(2)),
		answer: impl.Answer{Name: 3, Price: 130},
	}
	x.check(t, twoBookings(t))
	x = oneRun{op: book("Cy", people(1), 3), asks: asks(1011), works: []change{{3, 2, impl.Load{Seats: []impl.Seat{seat(5000, 1)}}}}, states: states(begun(impl.StageLocks), locked(1), worked(1)), answer: impl.Answer{Name: 3, Price: 40}}
	x.check(t, twoBookings(t))
}

func TestAConfirmationStepByStep(t *testing.T) {
	x := oneRun{op: confirm(2), states: states(begun(impl.StageNamed), begun(impl.StageWorks)), answer: impl.Answer{Name: 2, Price: 140}}
	if o := x.check(t, twoBookings(t)); o.Bookings[1].State != impl.StateBooked || o.Bookings[1].Until != 0 {
		t.Errorf("%+v", o.Bookings)
	}
}

func TestATransferStepByStep(t *testing.T) {
	x := oneRun{op: transfer(1, "Zoe"), states: states(begun(impl.StageNamed), begun(impl.StageWorks)), answer: impl.Answer{Name: 1}}
	if o := x.check(t, twoBookings(t)); o.Bookings[0].Owner != "Zoe" {
		t.Errorf("%+v", o.Bookings)
	}
}

// All that Ann's booking had goes, leg by leg, of each the car, the cabin, the people; then all is placed likewise.
func TestAnAmendmentStepByStep(t *testing.T) {
	x := oneRun{
		op:   amend(1, withCar(people(8), 350, 150), 2, 3),
		asks: asks(1003, 1004, 1005, 1006, 1007, 1008, 1009, 1011),
		works: []change{
			{1, 0, impl.Load{}}, {1, 1, impl.Load{}}, {1, 2, impl.Load{}},
			{2, 0, impl.Load{}}, {2, 1, impl.Load{Rooms: []impl.Room{berths(2, 0, 2)}}}, {2, 2, impl.Load{Seats: []impl.Seat{seat(2, 2)}}},
			{2, 0, impl.Load{Stays: []impl.Stay{stay(5000, 0, 350, 150)}}}, {2, 2, impl.Load{Seats: []impl.Seat{seat(2, 2), seat(5000, 8)}}},
			{3, 0, impl.Load{Stays: []impl.Stay{stay(5000, 0, 350, 150)}}}, {3, 2, impl.Load{Seats: []impl.Seat{seat(5000, 8)}}},
		},
		states: states(begun(impl.StageNamed), begun(impl.StageLocks), locked(8), worked(10)),
		answer: impl.Answer{Name: 1, Price: 722},
	}
	o := x.check(t, twoBookings(t))
	if b := o.Bookings[0]; b.By != 5000 || !slices.Equal(b.Legs, []int{2, 3}) || b.Price != 722 {
		t.Errorf("%+v", b)
	}
}

// The same sailing's resource goes and is placed: it is asked for once.
func TestAnAmendmentOnItsOwnLegStepByStep(t *testing.T) {
	x := oneRun{
		op:   amend(2, withBerths(people(1), 1, 3), 2),
		asks: asks(1007, 1008),
		works: []change{
			{2, 1, impl.Load{Rooms: []impl.Room{berths(1, 0, 1)}}}, {2, 2, impl.Load{Seats: []impl.Seat{seat(1, 1)}}},
			{2, 1, impl.Load{Rooms: []impl.Room{berths(1, 0, 1), berths(5000, 0, 3)}}}, {2, 2, impl.Load{Seats: []impl.Seat{seat(1, 1), seat(5000, 1)}}},
		},
		states: states(begun(impl.StageNamed), begun(impl.StageLocks), locked(2), worked(4)),
		answer: impl.Answer{Name: 2, Price: 130},
	}
	o := x.check(t, twoBookings(t))
	if b := o.Bookings[1]; b.By != 5000 || b.State != impl.StateHeld || b.Until != 50 {
		t.Errorf("%+v", b)
	}
}

func TestACancellationStepByStep(t *testing.T) {
	x := oneRun{
		op:   cancel(1, 0),
		asks: asks(1003, 1004, 1005, 1006, 1007, 1008),
		works: []change{
			{1, 0, impl.Load{}}, {1, 1, impl.Load{}}, {1, 2, impl.Load{}},
			{2, 0, impl.Load{}}, {2, 1, impl.Load{Rooms: []impl.Room{berths(2, 0, 2)}}}, {2, 2, impl.Load{Seats: []impl.Seat{seat(2, 2)}}},
		},
		states: states(begun(impl.StageNamed), begun(impl.StageLocks), locked(6), worked(6)),
		answer: impl.Answer{Name: 1},
	}
	if o := x.check(t, twoBookings(t)); o.Bookings[0].State != impl.StateCancelled {
		t.Errorf("%+v", o.Bookings)
	}
	o := told(t, newOffice(t, ferries()...), 1, book("Ann", people(2), 4), 1, 80)
	x = oneRun{op: cancel(1, 400), asks: asks(1014), works: []change{{4, 2, impl.Load{}}}, states: states(begun(impl.StageNamed), begun(impl.StageLocks), locked(1), worked(1)), answer: impl.Answer{Name: 1, Price: 40}}
	x.check(t, o)
}

func TestAnExpiryStepByStep(t *testing.T) {
	x := oneRun{
		op:     expire(2, 51),
		asks:   asks(1007, 1008),
		works:  []change{{2, 1, impl.Load{Rooms: []impl.Room{berths(1, 0, 1)}}}, {2, 2, impl.Load{Seats: []impl.Seat{seat(1, 1)}}}},
		states: states(begun(impl.StageNamed), begun(impl.StageLocks), locked(2), worked(2)),
		answer: impl.Answer{Name: 2},
	}
	if o := x.check(t, twoBookings(t)); o.Bookings[1].State != impl.StateLapsed || o.Bookings[1].Until != 50 {
		t.Errorf("%+v", o.Bookings)
	}
}

func TestAManifestStepByStep(t *testing.T) {
	x := oneRun{
		op:     manifest(2),
		asks:   sharedAsks(1006, 1007, 1008),
		states: states(begun(impl.StageLocks), locked(3)),
		answer: impl.Answer{Rows: []impl.Row{{Name: 1, Owner: "Ann", People: 1}, {Name: 2, Owner: "Bo", People: 2, Lane: -1}}},
	}
	o := twoBookings(t)
	wantOffice(t, x.check(t, o), o)
	x = oneRun{op: manifest(3), asks: sharedAsks(1009, 1010, 1011), states: states(begun(impl.StageLocks), locked(3))}
	x.check(t, o)
}

// The codes of chapter 7, each as the answer of a task, with the step at which it is finished.

func TestCodesOfTheFirstStep(t *testing.T) {
	o := twoBookings(t)
	for _, op := range []impl.Op{{}, {Kind: 10}, {Kind: -1}, book("", people(1), 1), amend(31, people(1), 1), amend(0, people(1), 1), transfer(1, ""), {Kind: impl.OpManifest}, confirm(0)} {
		oneRun{op: op, answer: impl.Answer{Code: impl.AnsForm}}.check(t, o)
	}
	for _, op := range []impl.Op{quote(people(1), 2, 1), hold("Cy", 5, people(1), 4), book("Cy", people(1), 1, 3), amend(1, people(1), 3, 2), amend(9, people(1), 77), manifest(4), manifest(0)} {
		oneRun{op: op, answer: impl.Answer{Code: impl.AnsRoute}}.check(t, o)
	}
}

// The booking's lock is asked for first, then it is looked for.
func TestCodesOfTheSecondStep(t *testing.T) {
	o := twoBookings(t)
	for _, name := range []int{3, 30} {
		for _, op := range []impl.Op{confirm(name), amend(name, people(1), 1), cancel(name, 5), transfer(name, "Zoe"), expire(name, 51)} {
			oneRun{op: op, states: begun(impl.StageNamed), answer: impl.Answer{Code: impl.AnsNone}}.check(t, o)
		}
	}
	gone := told(t, o, 3, cancel(1, 0), 1, 0)
	for _, op := range []impl.Op{confirm(1), amend(1, people(1), 1), cancel(1, 5), transfer(1, "Zoe"), expire(1, 51), expire(2, 50)} {
		oneRun{op: op, states: begun(impl.StageNamed), answer: impl.Answer{Code: impl.AnsState}}.check(t, gone)
	}
	for _, op := range []impl.Op{confirm(1), expire(1, 51)} {
		oneRun{op: op, states: begun(impl.StageNamed), answer: impl.Answer{Code: impl.AnsState}}.check(t, o)
	}
}

// A work that has a code is not noted; the ones ahead are taken back, the last one first.
func TestCodesOfTheWorks(t *testing.T) {
	o := twoBookings(t)
	car := withCar(people(1), 401, 100)
	third := []change{{3, 0, impl.Load{Stays: []impl.Stay{stay(5000, 0, 401, 100)}}}, {3, 2, impl.Load{Seats: []impl.Seat{seat(5000, 1)}}}}
	for _, op := range []impl.Op{quote(car, 1), hold("Cy", 5, car, 1), book("Cy", car, 1)} {
		oneRun{op: op, asks: asks(1003, 1005), states: states(begun(impl.StageLocks), locked(2), turned(0, impl.AnsDeck)), answer: impl.Answer{Code: impl.AnsDeck}}.check(t, o)
		op.Legs = []int{3}
		x := oneRun{op: op, asks: asks(1009, 1011), works: third, states: states(begun(impl.StageLocks), locked(2), worked(2)), answer: impl.Answer{Name: 3, Price: 100}}
		if op.Kind == impl.OpQuote {
			x.states, x.answer = append(x.states, turned(2, 0)...), impl.Answer{Price: 100}
		}
		x.check(t, o)
	}
	first := []change{{1, 1, impl.Load{Rooms: []impl.Room{berths(1, 0, 1), berths(5000, 0, 2)}}}, {1, 2, impl.Load{Seats: []impl.Seat{seat(1, 1), seat(5000, 8)}}}}
	for _, op := range []impl.Op{quote(withBerths(people(8), 1, 2), 1, 2), hold("Cy", 5, withBerths(people(8), 1, 2), 1, 2), book("Cy", withBerths(people(8), 1, 2), 1, 2)} {
		oneRun{op: op, asks: asks(1004, 1005, 1007, 1008), works: first, states: states(begun(impl.StageLocks), locked(4), worked(2), turned(2, impl.AnsCabin)), answer: impl.Answer{Code: impl.AnsCabin}}.check(t, o)
	}
	one := []change{{1, 2, impl.Load{Seats: []impl.Seat{seat(1, 1), seat(5000, 8)}}}}
	for _, op := range []impl.Op{quote(people(8), 1, 2, 3), hold("Cy", 5, people(8), 1, 2, 3), book("Cy", people(8), 1, 2, 3)} {
		oneRun{op: op, asks: asks(1005, 1008, 1011), works: one, states: states(begun(impl.StageLocks), locked(3), worked(1), turned(1, impl.AnsPeople)), answer: impl.Answer{Code: impl.AnsPeople}}.check(t, o)
	}
}

// An amendment that is refused gives all back that its booking had.
func TestAnAmendmentTakenBackStepByStep(t *testing.T) {
	o := twoBookings(t)
	x := oneRun{
		op:   amend(1, withBerths(withCar(people(2), 400, 150), 1, 3), 1, 2),
		asks: asks(1003, 1004, 1005, 1006, 1007, 1008),
		works: []change{
			{1, 0, impl.Load{}}, {1, 1, impl.Load{}}, {1, 2, impl.Load{}},
			{2, 0, impl.Load{}}, {2, 1, impl.Load{Rooms: []impl.Room{berths(2, 0, 2)}}}, {2, 2, impl.Load{Seats: []impl.Seat{seat(2, 2)}}},
			{1, 0, impl.Load{Stays: []impl.Stay{stay(5000, 0, 400, 150)}}}, {1, 1, impl.Load{Rooms: []impl.Room{berths(5000, 0, 3)}}}, {1, 2, impl.Load{Seats: []impl.Seat{seat(5000, 2)}}},
			{2, 0, impl.Load{Stays: []impl.Stay{stay(5000, 0, 400, 150)}}},
		},
		states: states(begun(impl.StageNamed), begun(impl.StageLocks), locked(6), worked(10), turned(10, impl.AnsCabin)),
		answer: impl.Answer{Code: impl.AnsCabin},
	}
	wantOffice(t, x.check(t, o), o)
}

// AnsFull is found when all is placed; a quote has no such code.
func TestTheCodeOfAFullOffice(t *testing.T) {
	o := fullOffice(t, wide()...)
	works := []change{{2, 0, impl.Load{Stays: []impl.Stay{stay(5000, 0, 100, 100)}}}, {2, 1, impl.Load{Rooms: []impl.Room{berths(5000, 0, 1)}}}, {2, 2, impl.Load{Seats: []impl.Seat{seat(5000, 1)}}}}
	for _, op := range []impl.Op{hold("Cy", 5, everything(), 2), book("Cy", everything(), 2)} {
		x := oneRun{op: op, asks: asks(1006, 1007, 1008), works: works, states: states(begun(impl.StageLocks), locked(3), worked(3), turned(3, impl.AnsFull)), answer: impl.Answer{Code: impl.AnsFull}}
		wantOffice(t, x.check(t, o), o)
	}
	x := oneRun{op: quote(everything(), 2), asks: asks(1006, 1007, 1008), works: works, states: states(begun(impl.StageLocks), locked(3), worked(3), turned(3, 0)), answer: impl.Answer{Price: 130}}
	wantOffice(t, x.check(t, o), o)
}

// The longest of all: three legs are left for three others, and the last work has a code.
func TestTheMostSteps(t *testing.T) {
	l := append(chain(0, 0, 0), sail(4, "Bari", "Cork", 30, 40), sail(5, "Cork", "Deal", 40, 50), sail(6, "Deal", "Erie", 50, 60))
	for i := 3; i < 6; i++ {
		l[i].Lanes, l[i].Cabins, l[i].Most = []impl.Lane{lane(500, 200)}, []impl.Cabin{cabin(1, 4)}, 10
	}
	l[5].Most = 1
	o := told(t, newOffice(t, l...), 1, book("Ann", everything(), 1, 2, 3), 1, 351)
	p := withBerths(withCar(people(2), 100, 100), 1, 1)
	m := submits(amend(1, p, 4, 5, 6))
	r := checkMoves(t, o, m)
	if r.Steps != 56 || r.Finished.Done[0].Answer.Code != impl.AnsPeople || !sameOffice(r.Finished.Office, o) {
		t.Error(r.Steps, r.Finished.Done)
	}
	if most := impl.MostSteps(m[0].Op); most != 58 {
		t.Error(most)
	}
	for n := 1; n <= 55; n++ {
		if d := played(t, o, moves(m, runs(0, n))); len(d.Tasks) != 1 || d.Tasks[0].Steps != n {
			t.Fatal(n, d.Tasks)
		}
	}
}

func TestMostStepsOfEveryKind(t *testing.T) {
	for kind, op := range goodOps() {
		if most := impl.MostSteps(op); most != 58 {
			t.Error(kind, most)
		}
		op.Now = 10001
		if most := impl.MostSteps(op); most != 1 {
			t.Error(kind, most)
		}
	}
	for _, op := range []impl.Op{{}, {Kind: 10}, {Kind: -1}, book("", people(1), 1), quote(people(0), 1), quote(people(1)), quote(people(1), 1, 2, 3, 4), confirm(31), manifest(1), quote(people(1), 77), confirm(30)} {
		if most := impl.MostSteps(op); most != mostStepsByWords(op) {
			t.Error(op, most)
		}
	}
}

// An operation that takes a route, a booking or a state that is none is good all the same.
func TestMostStepsLooksAtTheOperationAlone(t *testing.T) {
	for _, op := range []impl.Op{quote(people(1), 77), confirm(30), manifest(-5), amend(30, everything(), 9, 9, 9)} {
		if most := impl.MostSteps(op); most != 58 {
			t.Error(op, most)
		}
	}
}

func wantAsks(t *testing.T, o impl.Office, op impl.Op, want []impl.Ask, good bool) {
	t.Helper()
	got, ok := impl.AsksOf(o, op)
	byWords, okByWords := asksByWords(o, op)
	if ok != good || !slices.Equal(got, want) || okByWords != good || !slices.Equal(byWords, want) {
		t.Errorf("%+v: %v, %v, and by the words %v, %v", op, got, ok, byWords, okByWords)
	}
}

func TestAsksOfEveryKind(t *testing.T) {
	o := twoBookings(t)
	wantAsks(t, o, quote(everything(), 1), asks(1003, 1004, 1005), true)
	wantAsks(t, o, quote(people(1), 1, 2, 3), asks(1005, 1008, 1011), true)
	wantAsks(t, o, hold("Cy", 5, withCar(people(1), 1, 1), 2, 3), asks(1006, 1008, 1009, 1011), true)
	wantAsks(t, o, book("Cy", withWhole(people(1), 1), 1, 2), asks(1004, 1005, 1007, 1008), true)
	wantAsks(t, o, confirm(2), nil, true)
	wantAsks(t, o, transfer(1, "Zoe"), nil, true)
	wantAsks(t, o, amend(1, people(1), 3), asks(1003, 1004, 1005, 1006, 1007, 1008, 1011), true)
	wantAsks(t, o, amend(1, everything(), 1, 2), asks(1003, 1004, 1005, 1006, 1007, 1008), true)
	wantAsks(t, o, amend(2, withCar(people(1), 1, 1), 1, 2), asks(1003, 1005, 1006, 1007, 1008), true)
	wantAsks(t, o, cancel(1, 0), asks(1003, 1004, 1005, 1006, 1007, 1008), true)
	wantAsks(t, o, cancel(2, 0), asks(1007, 1008), true)
	wantAsks(t, o, expire(2, 51), asks(1007, 1008), true)
	wantAsks(t, o, manifest(1), sharedAsks(1003, 1004, 1005), true)
	wantAsks(t, o, manifest(3), sharedAsks(1009, 1010, 1011), true)
	wantAsks(t, newOffice(t, sail(99, "Oslo", "Kiel", 0, 1)), manifest(99), sharedAsks(1297, 1298, 1299), true)
}

// Sailings whose Ids fall along the way: the asks rise all the same.
func TestAsksRiseWhereTheLegsFall(t *testing.T) {
	first, second := sail(9, "Oslo", "Kiel", 0, 1), sail(2, "Kiel", "Aber", 1, 2)
	first.Most, second.Most = 9, 9
	o := newOffice(t, second, first)
	wantAsks(t, o, quote(everything(), 9, 2), asks(1006, 1007, 1008, 1027, 1028, 1029), true)
	o = told(t, o, 1, book("Ann", people(1), 9, 2), 1, 80)
	wantAsks(t, o, amend(1, everything(), 9), asks(1008, 1027, 1028, 1029), true)
	wantAsks(t, o, cancel(1, 0), asks(1008, 1029), true)
	x := oneRun{op: book("Bo", people(2), 9, 2), asks: asks(1008, 1029), works: []change{{9, 2, impl.Load{Seats: []impl.Seat{seat(1, 1), seat(5000, 2)}}}, {2, 2, impl.Load{Seats: []impl.Seat{seat(1, 1), seat(5000, 2)}}}}, states: states(begun(impl.StageLocks), locked(2), worked(2)), answer: impl.Answer{Name: 2, Price: 160}}
	x.check(t, o)
}

// A code ahead of the works stands in the way; one of the works, or that of a full office, does not.
func TestAsksOfOperationsWithACode(t *testing.T) {
	o := told(t, twoBookings(t), 3, cancel(1, 0), 1, 0)
	for _, op := range []impl.Op{
		{}, book("", people(1), 1), {Kind: impl.OpManifest}, quote(people(1), 2, 1), manifest(4), amend(2, people(1), 77),
		confirm(3), amend(3, people(1), 1), cancel(30, 0), transfer(3, "Zoe"), expire(3, 51),
		confirm(1), amend(1, people(1), 1), cancel(1, 0), transfer(1, "Zoe"), expire(1, 51), expire(2, 50),
	} {
		wantAsks(t, o, op, nil, false)
	}
	wantAsks(t, o, quote(withCar(people(1), 501, 1), 1), asks(1003, 1005), true)
	wantAsks(t, o, book("Cy", withBerths(people(1), 2, 1), 1), asks(1004, 1005), true)
	wantAsks(t, o, amend(2, people(20), 1), asks(1005, 1007, 1008), true)
	full := fullOffice(t, wide()...)
	wantAsks(t, full, book("Cy", people(1), 2), asks(1008), true)
	wantAsks(t, full, book("Cy", people(20), 2), asks(1008), true)
}

// By FirstBy and above a Booking may be asked about, though no move is made there.
func TestAsksOfAnOfficeWithLateBys(t *testing.T) {
	o := told(t, newOffice(t, chain(0, 0, 0)...), 9999, book("Ann", people(1), 1), 1, 40)
	wantAsks(t, o, cancel(1, 0), asks(1005), true)
	wantAsks(t, o, quote(people(1), 1), asks(1005), true)
	if _, _, good := impl.PlayMoves(o, nil); good {
		t.Error("played")
	}
}

func TestTheLeastSlotAndTheNextBy(t *testing.T) {
	o := twoBookings(t)
	op := quote(people(1), 1)
	bys := func(d impl.Desk) map[int]int {
		all := map[int]int{}
		for _, k := range d.Tasks {
			all[k.Slot] = k.By
		}
		return all
	}
	want := func(m []impl.Move, next int, all map[int]int) {
		t.Helper()
		d := played(t, o, m)
		rising := slices.IsSortedFunc(d.Tasks, func(a, b impl.Task) int { return a.Slot - b.Slot })
		if inWords(bys(d)) != inWords(all) || d.Next != next || !rising {
			t.Errorf("%v, Next %d, not %v", bys(d), d.Next, all)
		}
	}
	m := submits(op, op, op, op)
	want(m, 5004, map[int]int{0: 5000, 1: 5001, 2: 5002, 3: 5003})
	m = moves(m, abort(2), abort(0))
	want(m, 5004, map[int]int{1: 5001, 3: 5003})
	m = moves(m, submit(op))
	want(m, 5005, map[int]int{0: 5004, 1: 5001, 3: 5003})
	m = moves(m, submit(op), submit(op))
	want(m, 5007, map[int]int{0: 5004, 1: 5001, 2: 5005, 3: 5003, 4: 5006})
	m = moves(m, runs(1, 6), submit(op))
	want(m, 5008, map[int]int{0: 5004, 1: 5007, 2: 5005, 3: 5003, 4: 5006})
	d, _, _ := impl.FinishAfter(o, m)
	var order []int
	for _, x := range d.Done {
		order = append(order, x.By)
	}
	if !slices.Equal(order, []int{5001, 5004, 5007, 5005, 5003, 5006}) || d.Next != 5008 {
		t.Error(order, d.Next)
	}
}

func TestMaxTasksAndOneMore(t *testing.T) {
	o := twoBookings(t)
	m := submits(slices.Repeat([]impl.Op{manifest(1)}, 12)...)
	if d := played(t, o, m); len(d.Tasks) != 12 || d.Next != 5012 || d.Tasks[11].Slot != 11 {
		t.Error(d.Tasks)
	}
	wantReady(t, o, m, 0, 1, 2, 3, 4, 5, 6, 7, 8, 9, 10, 11)
	refusedMove(t, o, m, submit(quote(people(1), 1)), impl.RunFull)
	d := played(t, o, moves(m, abort(7), submit(confirm(2))))
	if len(d.Tasks) != 12 || d.Tasks[7].By != 5012 || d.Tasks[7].Op.Kind != impl.OpConfirm || d.Next != 5013 {
		t.Error(d.Tasks)
	}
	r := checkMoves(t, o, moves(m, submit(confirm(2)), submit(confirm(2)), abort(0), submit(confirm(2))))
	if !slices.Equal(r.Codes[12:], []int{impl.RunFull, impl.RunFull, 0, 0}) || r.Desk.Next != 5013 || r.Desk.Tasks[0].By != 5012 {
		t.Error(r.Codes, r.Desk.Next)
	}
}

// Tasks that wait.

func TestTasksThatWaitForOneBooking(t *testing.T) {
	o := twoBookings(t)
	m := moves(submits(transfer(2, "Cy"), confirm(2), expire(2, 51)), run(0), run(2), run(1))
	d := played(t, o, m)
	wantTasks(t, d, map[int]int{0: impl.StageNamed, 1: impl.StageNamed, 2: impl.StageNamed})
	wantDeskLocks(t, d, impl.Lock{Key: 2, Held: asked(alone(0)), Queue: asked(alone(2), alone(1))})
	wantReady(t, o, m, 0)
	refusedMove(t, o, m, run(1), impl.RunNotReady)
	refusedMove(t, o, m, run(2), impl.RunNotReady)
	m = moves(m, runs(0, 2))
	d = played(t, o, m)
	wantDeskLocks(t, d, impl.Lock{Key: 2, Held: asked(alone(2)), Queue: asked(alone(1))})
	wantDone(t, d, impl.Done{By: 5000, Op: transfer(2, "Cy"), Answer: impl.Answer{Name: 2}})
	wantReady(t, o, m, 2)
	d, steps, _ := impl.FinishAfter(o, m)
	if steps != 7 || len(d.Done) != 3 || d.Done[1].Answer.Code != impl.AnsOk || d.Done[2].By != 5001 || d.Done[2].Answer.Code != impl.AnsState {
		t.Error(steps, d.Done)
	}
}

// Whether there is such a Booking is looked at behind the lock: it may have come meanwhile.
func TestABookingThatComesMeanwhile(t *testing.T) {
	o := twoBookings(t)
	early := moves(submits(book("Cy", people(1), 3), cancel(3, 0)), run(1), run(1), runs(0, 4))
	d := played(t, o, early)
	wantDone(t, d, impl.Done{By: 5001, Op: cancel(3, 0), Answer: impl.Answer{Code: impl.AnsNone}}, impl.Done{By: 5000, Op: book("Cy", people(1), 3), Answer: impl.Answer{Name: 3, Price: 40}})
	late := moves(submits(book("Cy", people(1), 3), cancel(3, 0)), run(1), runs(0, 4), run(1))
	d = played(t, o, late)
	wantTasks(t, d, map[int]int{1: impl.StageLocks})
	if !slices.Equal(d.Tasks[0].Asks, asks(1011)) {
		t.Error(d.Tasks)
	}
}

// What an amendment left behind decides what a cancellation asks for.
func TestAsksAreThoseOfTheOfficeThen(t *testing.T) {
	o := twoBookings(t)
	m := moves(submits(amend(1, people(1), 3), cancel(1, 0)), run(0), run(1), runs(0, 1+7+7+1))
	d := played(t, o, m)
	wantTasks(t, d, map[int]int{1: impl.StageNamed})
	if len(d.Done) != 1 || d.Done[0].Answer.Code != 0 {
		t.Fatal(d)
	}
	d = played(t, o, moves(m, run(1)))
	if d.Tasks[0].Stage != impl.StageLocks || !slices.Equal(d.Tasks[0].Asks, asks(1011)) {
		t.Error(d.Tasks)
	}
}

func TestTasksThatWaitForAResource(t *testing.T) {
	o := twoBookings(t)
	ops := []impl.Op{book("Cy", people(8), 1), book("Di", people(8), 1), quote(people(1), 1)}
	m := moves(submits(ops...), runs(0, 2), runs(1, 2), runs(2, 2))
	d := played(t, o, m)
	wantTasks(t, d, map[int]int{0: impl.StageWorks, 1: impl.StageWorks, 2: impl.StageWorks})
	wantDeskLocks(t, d, impl.Lock{Key: 1005, Held: asked(alone(0)), Queue: asked(alone(1), alone(2))})
	wantReady(t, o, m, 0)
	refusedMove(t, o, m, run(1), impl.RunNotReady)
	m = moves(m, runs(0, 2))
	d = played(t, o, m)
	wantDeskLocks(t, d, impl.Lock{Key: 1005, Held: asked(alone(1)), Queue: asked(alone(2))})
	wantReady(t, o, m, 1)
	m = moves(m, run(1))
	d = played(t, o, m)
	if k := d.Tasks[0]; k.Stage != impl.StageBack || k.Code != impl.AnsPeople || len(k.Notes) > 0 {
		t.Error(k)
	}
	m = moves(m, run(1))
	d = played(t, o, m)
	wantDeskLocks(t, d, impl.Lock{Key: 1005, Held: asked(alone(2))})
	wantDone(t, d, impl.Done{By: 5000, Op: ops[0], Answer: impl.Answer{Name: 3, Price: 304}}, impl.Done{By: 5001, Op: ops[1], Answer: impl.Answer{Code: impl.AnsPeople}})
	wantReady(t, o, m, 2)
}

// Where it waits for a lock that is not the last it stays in its stage, with At one more.
func TestATaskThatWaitsAmidItsLocks(t *testing.T) {
	o := twoBookings(t)
	m := moves(submits(book("Cy", people(1), 1), book("Di", people(1), 1, 2)), runs(0, 2), runs(1, 2))
	d := played(t, o, m)
	if k := d.Tasks[1]; k.Stage != impl.StageLocks || k.At != 1 || k.Steps != 2 {
		t.Error(k)
	}
	wantDeskLocks(t, d, impl.Lock{Key: 1005, Held: asked(alone(0)), Queue: asked(alone(1))})
	refusedMove(t, o, m, run(1), impl.RunNotReady)
	m = moves(m, runs(0, 2), run(1))
	d = played(t, o, m)
	if k := d.Tasks[0]; k.Stage != impl.StageWorks || k.At != 0 || k.Steps != 3 {
		t.Error(k)
	}
	wantDeskLocks(t, d, impl.Lock{Key: 1005, Held: asked(alone(1))}, impl.Lock{Key: 1008, Held: asked(alone(1))})
}

func TestManifestsShareASailing(t *testing.T) {
	o := twoBookings(t)
	m := moves(submits(manifest(2), manifest(2), book("Cy", people(1), 2), manifest(2)), runs(0, 4), runs(1, 4), runs(2, 2))
	d := played(t, o, m)
	both := asked(shared(0), shared(1))
	wantDeskLocks(t, d, impl.Lock{Key: 1006, Held: both}, impl.Lock{Key: 1007, Held: both}, impl.Lock{Key: 1008, Held: both, Queue: asked(alone(2))})
	wantReady(t, o, m, 0, 1, 3)
	m = moves(m, runs(3, 4))
	d = played(t, o, m)
	three := asked(shared(0), shared(1), shared(3))
	wantDeskLocks(t, d, impl.Lock{Key: 1006, Held: three}, impl.Lock{Key: 1007, Held: three}, impl.Lock{Key: 1008, Held: both, Queue: asked(alone(2), shared(3))})
	wantReady(t, o, m, 0, 1)
	m = moves(m, run(1), run(0))
	wantReady(t, o, m, 2)
	m = moves(m, runs(2, 2))
	wantReady(t, o, m, 3)
	d = played(t, o, moves(m, run(3)))
	if len(d.Done) != 4 || len(d.Done[0].Answer.Rows) != 2 || len(d.Done[1].Answer.Rows) != 2 || len(d.Done[3].Answer.Rows) != 3 || d.Done[3].By != 5003 {
		t.Error(d.Done)
	}
}

// A manifest of a sailing waits until a booking that is being amended there is done.
func TestAManifestWaitsForAnAmendment(t *testing.T) {
	o := twoBookings(t)
	m := moves(submits(amend(2, people(1), 2), manifest(2), manifest(1)), runs(0, 4), run(0), runs(1, 3), runs(2, 5))
	d := played(t, o, m)
	wantDone(t, d, impl.Done{By: 5002, Op: manifest(1), Answer: impl.Answer{Rows: []impl.Row{{Name: 1, Owner: "Ann", People: 1}}}})
	wantReady(t, o, m, 0)
	wantDeskLocks(t, d, impl.Lock{Key: 2, Held: asked(alone(0))}, impl.Lock{Key: 1006, Held: asked(shared(1))}, impl.Lock{Key: 1007, Held: asked(alone(0)), Queue: asked(shared(1))}, impl.Lock{Key: 1008, Held: asked(alone(0))})
	d, _, _ = impl.FinishAfter(o, m)
	if rows := d.Done[2].Answer.Rows; !slices.Equal(rows, []impl.Row{{Name: 1, Owner: "Ann", People: 1}, {Name: 2, Owner: "Bo", People: 1, Lane: -1, Cabin: -1}}) {
		t.Error(rows)
	}
}

// Tasks that have nothing in common do not wait for each other.
func TestTasksSideBySide(t *testing.T) {
	o := twoBookings(t)
	ops := []impl.Op{book("Cy", people(1), 1), book("Di", withCar(people(1), 10, 10), 3), expire(2, 51)}
	m := submits(ops...)
	for range 4 {
		m = moves(m, run(2), run(1), run(0))
		wantReady(t, o, m[:len(m)-1], 0, 1, 2)
	}
	d := played(t, o, m)
	wantTasks(t, d, map[int]int{1: impl.StageWorks, 2: impl.StageWorks})
	wantDone(t, d, impl.Done{By: 5000, Op: ops[0], Answer: impl.Answer{Name: 3, Price: 40}})
	d, steps, _ := impl.FinishAfter(o, m)
	if steps != 2+3 || d.Done[1].Answer.Name != 4 || d.Done[2].By != 5002 {
		t.Error(steps, d.Done)
	}
}

// An abort in each stage, with what it held left and what waited let in.

func TestAnAbortInEachStage(t *testing.T) {
	o := twoBookings(t)
	refused := amend(1, withBerths(people(1), 1, 4), 1, 2)
	for what, c := range map[string]struct {
		op    impl.Op
		steps int
		stage int
		notes int
	}{
		"begin":                     {book("Cy", everything(), 1), 0, impl.StageBegin, 0},
		"named":                     {cancel(1, 0), 1, impl.StageNamed, 0},
		"no lock yet":               {book("Cy", everything(), 1), 1, impl.StageLocks, 0},
		"amid the locks":            {cancel(1, 0), 4, impl.StageLocks, 0},
		"all locks":                 {cancel(1, 0), 8, impl.StageWorks, 0},
		"one work":                  {cancel(1, 0), 9, impl.StageWorks, 1},
		"all works":                 {cancel(1, 0), 14, impl.StageWorks, 6},
		"works without asks":        {transfer(1, "Zoe"), 2, impl.StageWorks, 0},
		"a quote turned back":       {quote(everything(), 1), 8, impl.StageBack, 3},
		"a quote half way back":     {quote(everything(), 1), 10, impl.StageBack, 1},
		"a quote all the way back":  {quote(everything(), 1), 11, impl.StageBack, 0},
		"a refused one turned back": {refused, 2 + 6 + 8 + 1, impl.StageBack, 8},
		"a refused one half way":    {refused, 2 + 6 + 8 + 1 + 3, impl.StageBack, 5},
		"a manifest":                {manifest(1), 4, impl.StageWorks, 0},
	} {
		m := moves(submit(c.op), runs(0, c.steps))
		d := played(t, o, m)
		if len(d.Tasks) != 1 || d.Tasks[0].Stage != c.stage || len(d.Tasks[0].Notes) != c.notes || (c.notes > 0) == sameOffice(d.Office, o) {
			t.Fatalf("%s: %+v", what, d.Tasks)
		}
		d = played(t, o, moves(m, abort(0)))
		if len(d.Tasks)+len(d.Locks)+len(d.Done) > 0 || d.Next != 5001 || !sameOffice(d.Office, o) {
			t.Errorf("%s: %+v", what, d)
		}
		refusedMove(t, o, moves(m, abort(0)), abort(0), impl.RunNone)
		refusedMove(t, o, moves(m, abort(0)), run(0), impl.RunNone)
	}
}

func TestAnAbortLetsThoseInThatWaited(t *testing.T) {
	o := twoBookings(t)
	// slot 0 holds the booking 1 and all of sailings 1 and 2, and has done four works; 1 waits for the booking, 2 for sailing 1, 3 and 4 for sailing 2
	m := moves(submits(cancel(1, 0), transfer(1, "Zoe"), quote(everything(), 1), manifest(2), manifest(2)), runs(0, 12), run(1), runs(2, 2), runs(3, 2), runs(4, 2))
	d := played(t, o, m)
	wantReady(t, o, m, 0)
	wantDeskLocks(t, d,
		impl.Lock{Key: 1, Held: asked(alone(0)), Queue: asked(alone(1))},
		impl.Lock{Key: 1003, Held: asked(alone(0)), Queue: asked(alone(2))}, impl.Lock{Key: 1004, Held: asked(alone(0))}, impl.Lock{Key: 1005, Held: asked(alone(0))},
		impl.Lock{Key: 1006, Held: asked(alone(0)), Queue: asked(shared(3), shared(4))}, impl.Lock{Key: 1007, Held: asked(alone(0))}, impl.Lock{Key: 1008, Held: asked(alone(0))})
	m = moves(m, abort(0))
	d = played(t, o, m)
	wantReady(t, o, m, 1, 2, 3, 4)
	wantDeskLocks(t, d, impl.Lock{Key: 1, Held: asked(alone(1))}, impl.Lock{Key: 1003, Held: asked(alone(2))}, impl.Lock{Key: 1006, Held: asked(shared(3), shared(4))})
	wantOffice(t, d.Office, o)
	wantDone(t, d)
}

// One that waits leaves the Queue, and what it held; another one stays.
func TestAnAbortOfOneThatWaits(t *testing.T) {
	o := twoBookings(t)
	m := moves(submits(book("Cy", people(1), 2), cancel(2, 0), book("Di", people(1), 2), confirm(2)), runs(0, 2), runs(1, 4), runs(2, 2), run(3))
	d := played(t, o, m)
	wantReady(t, o, m, 0)
	wantDeskLocks(t, d,
		impl.Lock{Key: 2, Held: asked(alone(1)), Queue: asked(alone(3))}, impl.Lock{Key: 1007, Held: asked(alone(1))},
		impl.Lock{Key: 1008, Held: asked(alone(0)), Queue: asked(alone(1), alone(2))})
	m = moves(m, abort(1))
	d = played(t, o, m)
	wantDeskLocks(t, d, impl.Lock{Key: 2, Held: asked(alone(3))}, impl.Lock{Key: 1008, Held: asked(alone(0)), Queue: asked(alone(2))})
	wantReady(t, o, m, 0, 3)
	wantTasks(t, d, map[int]int{0: impl.StageWorks, 2: impl.StageWorks, 3: impl.StageNamed})
}

// Behind an abort the slot is another task's, with nothing of the one ahead.
func TestASlotUsedAgain(t *testing.T) {
	o := twoBookings(t)
	m := moves(submit(cancel(1, 0)), runs(0, 12), abort(0), submit(book("Cy", people(1), 3)))
	d := played(t, o, m)
	if len(d.Tasks) != 1 || !sameTask(d.Tasks[0], impl.Task{By: 5001, Op: book("Cy", people(1), 3), Stage: impl.StageBegin}) {
		t.Errorf("%+v", d.Tasks)
	}
	d = played(t, o, moves(m, runs(0, 4)))
	wantDone(t, d, impl.Done{By: 5001, Op: book("Cy", people(1), 3), Answer: impl.Answer{Name: 3, Price: 40}})
}

// FinishAfter runs the ready one in the least Slot first; AbortAfter takes all back.

func TestFinishingFromTheLeastSlotOn(t *testing.T) {
	o := twoBookings(t)
	ops := []impl.Op{book("Cy", people(2), 1), transfer(1, "Zoe"), manifest(1), {}, quote(people(7), 1)}
	// slot 4 holds what 0 and 2 wait for
	m := moves(submits(ops...), runs(4, 3), runs(0, 2), run(1))
	wantReady(t, o, m, 1, 2, 3, 4)
	d, steps, good := impl.FinishAfter(o, m)
	if !good || steps != 2+2+5+1+3 || len(d.Tasks)+len(d.Locks) > 0 {
		t.Error(steps, d)
	}
	rows := []impl.Row{{Name: 1, Owner: "Zoe", People: 1}, {Name: 3, Owner: "Cy", People: 2, Lane: -1, Cabin: -1}}
	wantDone(t, d, impl.Done{By: 5001, Op: ops[1], Answer: impl.Answer{Name: 1}}, impl.Done{By: 5003, Op: ops[3], Answer: impl.Answer{Code: impl.AnsForm}},
		impl.Done{By: 5004, Op: ops[4], Answer: impl.Answer{Price: 280}}, impl.Done{By: 5000, Op: ops[0], Answer: impl.Answer{Name: 3, Price: 80}},
		impl.Done{By: 5002, Op: ops[2], Answer: impl.Answer{Rows: rows}})
	// the same by moves
	byMoves := played(t, o, moves(m, runs(1, 2), runs(2, 4), run(3), runs(4, 3), runs(0, 2), run(2)))
	if !sameDesk(byMoves, d) {
		t.Errorf("%+v, not %+v", byMoves, d)
	}
}

func TestAbortingAllThatIsLeft(t *testing.T) {
	o := twoBookings(t)
	ops := []impl.Op{cancel(1, 0), book("Cy", people(2), 3), quote(everything(), 2), transfer(1, "Zoe"), confirm(2)}
	m := moves(submits(ops...), runs(0, 12), runs(1, 3), runs(2, 2), run(3), runs(4, 3))
	d, good := impl.AbortAfter(o, m)
	if !good || len(d.Tasks)+len(d.Locks) > 0 || d.Next != 5005 {
		t.Fatalf("%+v, %v", d, good)
	}
	wantDone(t, d, impl.Done{By: 5004, Op: ops[4], Answer: impl.Answer{Name: 2, Price: 140}})
	want := told(t, o, 3, confirm(2), 2, 140)
	wantOffice(t, d.Office, want)
	byMoves := played(t, o, moves(m, abort(0), abort(1), abort(2), abort(3)))
	if !sameDesk(byMoves, d) {
		t.Errorf("%+v, not %+v", byMoves, d)
	}
	checkMoves(t, o, m)
}

// All orders in which a few tasks may run, one of them aborted anywhere or none.

// smallOffice has a sailing with little room, and a way of two legs.
func smallOffice(t *testing.T) impl.Office {
	s := sail(1, "Oslo", "Kiel", 50, 60)
	s.Lanes, s.Cabins, s.Most = []impl.Lane{lane(100, 100)}, []impl.Cabin{cabin(1, 2)}, 3
	next := sail(2, "Kiel", "Aber", 60, 70)
	next.Cabins, next.Most = []impl.Cabin{cabin(1, 1)}, 1
	o := told(t, newOffice(t, s, next), 1, hold("Ann", 5, people(1), 1), 1, 40)
	return told(t, o, 2, book("Bo", people(1), 2), 2, 40)
}

// everyOrder makes a step of each ready task in turn, until there are none; it holds each desk on the way against the words.
func everyOrder(t *testing.T, o impl.Office, m []impl.Move, d impl.Desk, aborts int, end func(d impl.Desk)) {
	t.Helper()
	if got, _, good := impl.PlayMoves(o, m); !good || !sameDesk(got, d) {
		t.Fatalf("%+v:\n%+v\nand by the words\n%+v", m, got, d)
	}
	if len(d.Tasks) == 0 {
		end(d)
		return
	}
	ready, _ := impl.ReadyAfter(o, m)
	if len(ready) == 0 || !slices.Equal(ready, readyByWords(d)) {
		t.Fatalf("%+v: ready are %v, of %+v", m, ready, d)
	}
	next := func(move impl.Move, aborts int) {
		then := copyDesk(d)
		moveByWords(&then, move)
		everyOrder(t, o, append(m[:len(m):len(m)], move), then, aborts, end)
	}
	for _, slot := range ready {
		next(run(slot), aborts)
	}
	for _, k := range d.Tasks {
		if aborts > 0 {
			next(abort(k.Slot), aborts-1)
		}
	}
}

func TestEveryOrderOfTwoTasks(t *testing.T) {
	o := smallOffice(t)
	ops := []impl.Op{
		book("Cy", people(2), 1), book("Di", people(1), 1, 2), quote(people(1), 1), amend(1, people(1), 2), amend(1, people(3), 1), amend(2, people(2), 1),
		cancel(1, 0), cancel(2, 0), confirm(1), expire(1, 6), transfer(2, "Zoe"), manifest(1), confirm(3), {},
	}
	ends, kept := 0, map[string]bool{}
	for _, a := range ops {
		for _, b := range ops {
			m := submits(a, b)
			d, _, _ := playByWords(o, m)
			everyOrder(t, o, m, d, 0, func(d impl.Desk) {
				ends++
				kept[inWords(d.Office)] = true
				if then, _, good := impl.DoAll(o, []int{d.Done[0].By, d.Done[1].By}, []impl.Op{d.Done[0].Op, d.Done[1].Op}); !good || !sameOffice(then, d.Office) {
					t.Fatalf("%+v: one after the other leaves\n%+v, not\n%+v", d.Done, then, d.Office)
				}
			})
		}
	}
	if ends < 5000 || len(kept) < 40 {
		t.Error(ends, len(kept))
	}
}

func TestEveryOrderOfTwoTasksOfWhichSomeAreAborted(t *testing.T) {
	o := smallOffice(t)
	for _, ops := range [][]impl.Op{{book("Cy", people(2), 1), cancel(1, 0)}, {amend(1, people(2), 1), manifest(1)}, {quote(people(2), 1), quote(people(3), 1)}, {expire(1, 6), confirm(1)}} {
		m := submits(ops...)
		d, _, _ := playByWords(o, m)
		ends := 0
		everyOrder(t, o, m, d, 2, func(d impl.Desk) {
			ends++
			if len(d.Done) == 0 && !sameOffice(d.Office, o) {
				t.Fatalf("nothing is done, and the office is %+v", d.Office)
			}
		})
		if ends < 100 {
			t.Error(ops, ends)
		}
	}
}

func TestEveryOrderOfThreeTasks(t *testing.T) {
	o := smallOffice(t)
	for _, ops := range [][]impl.Op{{confirm(1), transfer(1, "Zoe"), expire(1, 6)}, {book("Cy", people(1), 1), book("Di", people(1), 1), book("Ed", people(1), 1)}, {transfer(2, "Cy"), cancel(2, 0), book("Cy", people(1), 2)}} {
		m := submits(ops...)
		d, _, _ := playByWords(o, m)
		ends := 0
		everyOrder(t, o, m, d, 0, func(d impl.Desk) { ends++ })
		if ends < 20 {
			t.Error(ops, ends)
		}
	}
}

// Drawn orders of moves.

// changedPairs are the sailings and resources whose lists differ.
func changedPairs(a, b impl.Office) [][2]int {
	var pairs [][2]int
	for i, s := range a.Sailings {
		for resource := range 3 {
			if !sameLoads([]impl.Load{justByWords(a.Loads[i], resource)}, []impl.Load{justByWords(b.Loads[i], resource)}) {
				pairs = append(pairs, [2]int{s.Id, resource})
			}
		}
	}
	return pairs
}

// seenMoves counts what drawn orders came by.
type seenMoves struct {
	codes, answers, stages, tasks, abortedIn map[int]int
	changes, waits, mostSteps, shared, turns int
}

func newSeen() *seenMoves {
	return &seenMoves{codes: map[int]int{}, answers: map[int]int{}, stages: map[int]int{}, tasks: map[int]int{}, abortedIn: map[int]int{}}
}

// randomMove runs in the most cases; it submits more where there are few tasks.
func randomMove(r *rand.Rand, d impl.Desk, many int) impl.Move {
	m := run(r.Intn(12))
	if len(d.Tasks) > 0 {
		m.Slot = d.Tasks[r.Intn(len(d.Tasks))].Slot
	}
	switch n := r.Intn(100); {
	case n < 4:
		m = abort(m.Slot)
	case n < 5:
		m.Kind = r.Intn(6) - 1
	case n < 6:
		m.Slot = r.Intn(16) - 2
	case n < 12 || len(d.Tasks) < many && n < 50:
		m = submit(randomOp(r, d.Office))
	}
	if r.Intn(20) == 0 {
		m.Op, m.Slot = randomOp(r, d.Office), m.Slot*count(m.Kind != impl.MoveSubmit)
	}
	return m
}

// checkStep is what promise 8 says of one move.
func checkStep(t *testing.T, was, now impl.Desk, m impl.Move, code int, seen *seenMoves) {
	t.Helper()
	pairs := changedPairs(was.Office, now.Office)
	if code != impl.RunOk && !sameDesk(was, now) {
		t.Fatalf("%+v has the code %d: the desk was\n%+v, and is\n%+v", m, code, was, now)
	}
	if m.Kind == impl.MoveRun && len(pairs) > 1 || m.Kind == impl.MoveSubmit && len(pairs) > 0 {
		t.Fatalf("%+v changes %v", m, pairs)
	}
	for i, s := range now.Office.Sailings {
		l := now.Office.Loads[i]
		if !goodDeckByWords(s.Lanes, l.Stays) || !goodRoomsByWords(s.Cabins, l.Rooms) || !goodSeatsByWords(s.Most, l.Seats) {
			t.Fatalf("%+v: sailing %d has more than it may: %+v", m, s.Id, l)
		}
	}
	if !goodLocksByWords(now.Locks) || cycleByWords(now.Locks) {
		t.Fatalf("%+v: the locks are %+v", m, now.Locks)
	}
	for _, k := range now.Tasks {
		if k.Steps > impl.MostSteps(k.Op) {
			t.Fatalf("too many steps: %+v", k)
		}
	}
	seen.changes += len(pairs)
}

// count is of what the move met.
func (seen *seenMoves) count(was, now impl.Desk, m impl.Move, code int) {
	seen.codes[code]++
	seen.tasks[len(now.Tasks)]++
	for _, k := range now.Tasks {
		seen.stages[k.Stage]++
		seen.mostSteps = max(seen.mostSteps, k.Steps)
		seen.turns += count(k.Stage == impl.StageBack && len(k.Notes) > 0 && k.Code != 0)
	}
	for _, l := range now.Locks {
		seen.waits += len(l.Queue)
		seen.shared += count(len(l.Held) > 1)
	}
	if len(now.Done) > len(was.Done) {
		seen.answers[now.Done[len(now.Done)-1].Answer.Code]++
	}
	for _, k := range was.Tasks {
		if m.Kind == impl.MoveAbort && k.Slot == m.Slot {
			seen.abortedIn[k.Stage]++
		}
	}
}

// drawnOffice has few Bookings, or nearly MaxBookings.
func drawnOffice(t *testing.T, seed int) impl.Office {
	l := ferries()
	l[0].Most += 480 * (seed % 2)
	o := newOffice(t, l...)
	if seed%4 == 1 {
		for n := 1; n <= 28; n++ {
			o, _, _ = impl.DoOp(o, n, hold("Ann", n, people(1), 1))
		}
	}
	return o
}

func TestDrawnOrdersOfMoves(t *testing.T) {
	seen := newSeen()
	for seed := range 40 {
		r := rand.New(rand.NewSource(int64(800 + seed)))
		o := drawnOffice(t, seed)
		many := []int{3, 12, 6, 1}[seed/4%4]
		d, _, _ := playByWords(o, nil)
		steps := map[int]int{}
		var m []impl.Move
		for range impl.MaxMoves {
			move := randomMove(r, d, many)
			was := copyDesk(d)
			m = append(m, move)
			code := moveByWords(&d, move)
			got, codes, good := impl.PlayMoves(o, m)
			if !good || codes[len(m)-1] != code || !sameDesk(got, d) {
				t.Fatalf("seed %d, behind %d moves, %+v: %v\n%+v\nand by the words, %d\n%+v", seed, len(m), move, codes[len(m)-1], got, code, d)
			}
			if ready := readyByWords(got); len(got.Tasks) > 0 && len(ready) == 0 {
				t.Fatal(seed, len(m), got)
			} else if len(m)%5 == 0 {
				wantReady(t, o, m, ready...)
			}
			checkStep(t, was, got, move, code, seen)
			seen.count(was, got, move, code)
			for _, k := range was.Tasks {
				if move.Kind == impl.MoveRun && code == 0 && k.Slot == move.Slot {
					steps[k.By]++
				}
			}
		}
		for _, x := range d.Done {
			if steps[x.By] > impl.MostSteps(x.Op) || steps[x.By] == 0 {
				t.Fatal(seed, x, steps[x.By])
			}
		}
		checkMoves(t, o, m)
		checkReplay(t, o, m)
	}
	seen.want(t)
}

// checkReplay: what is done leaves, one after the other, what is left when all else is aborted.
func checkReplay(t *testing.T, o impl.Office, m []impl.Move) {
	t.Helper()
	for _, left := range []func() (impl.Desk, bool){
		func() (impl.Desk, bool) { return impl.AbortAfter(o, m) },
		func() (impl.Desk, bool) { d, _, good := impl.FinishAfter(o, m); return d, good },
	} {
		d, good := left()
		if !good || !impl.GoodOffice(d.Office) {
			t.Fatalf("the office is not good in the end: %+v", d.Office)
		}
		at := copyOffice(o)
		for _, x := range d.Done {
			then, a, good := impl.DoOp(at, x.By, x.Op)
			if !good || !sameAnswer(a, x.Answer) {
				t.Fatalf("%+v, and at once %+v, %v", x, a, good)
			}
			at = then
		}
		if !sameOffice(at, d.Office) {
			t.Fatalf("one after the other leaves\n%+v, not\n%+v", at, d.Office)
		}
	}
}

// want: the orders came by all that there is.
func (seen *seenMoves) want(t *testing.T) {
	t.Helper()
	for code := impl.RunOk; code <= impl.RunFull; code++ {
		if seen.codes[code] < 10 {
			t.Error("code", code, seen.codes[code])
		}
	}
	for code := impl.AnsOk; code <= impl.AnsFull; code++ {
		if seen.answers[code] < 5 {
			t.Error("answer", code, seen.answers[code])
		}
	}
	for stage := impl.StageBegin; stage <= impl.StageBack; stage++ {
		if seen.stages[stage] < 100 || seen.abortedIn[stage] < 5 {
			t.Error("stage", stage, seen.stages[stage], seen.abortedIn[stage])
		}
	}
	for many := range impl.MaxTasks + 1 {
		if seen.tasks[many] < 10 {
			t.Error("tasks", many, seen.tasks[many])
		}
	}
	if seen.changes < 500 || seen.waits < 500 || seen.mostSteps < 20 || seen.shared < 50 || seen.turns < 50 {
		t.Error(seen.changes, seen.waits, seen.mostSteps, seen.shared, seen.turns)
	}
}
