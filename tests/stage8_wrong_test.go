package tests

import (
	"math/rand"
	"reflect"
	"slices"
	"testing"

	"loop.example/g00084/impl"
)

// someMoves leave, on busyOffice, tasks in each stage, some of which wait, and three that are done.
func someMoves() []impl.Move {
	return moves(
		submit(manifest(9)), runs(0, 5), submit(impl.Op{Kind: 77, Legs: []int{5, 6}}), run(0), submit(confirm(2)), runs(0, 3),
		submits(quote(people(1), 2), cancel(1, 0), transfer(1, "Zoe"), manifest(4), book("Di", people(1), 9), quote(people(9), 1), amend(3, people(2), 4), book("Ed", everything(), 2)),
		runs(0, 4), runs(1, 7), runs(2, 2), runs(3, 3), run(4), runs(6, 4), runs(7, 2), abort(5), submit(quote(people(2), 1)), run(77),
		abort(3), submit(manifest(4)), runs(3, 3), submit(amend(5, people(1), 9)), runs(8, 5), run(4), run(2),
	)
}

// stagesOf are the stages of the tasks, in their order.
func stagesOf(d impl.Desk) []int {
	var all []int
	for _, k := range d.Tasks {
		all = append(all, k.Stage)
	}
	return all
}

func TestSomeMovesMeetEveryStage(t *testing.T) {
	r := checkMoves(t, busyOffice(t), someMoves())
	for stage := impl.StageBegin; stage <= impl.StageBack; stage++ {
		if !slices.Contains(stagesOf(r.Desk), stage) {
			t.Error(stage, stagesOf(r.Desk))
		}
	}
	notes, queues, rows := 0, 0, 0
	for _, k := range r.Desk.Tasks {
		notes += len(k.Notes)
	}
	for _, l := range r.Desk.Locks {
		queues += len(l.Queue)
	}
	for _, x := range r.Finished.Done {
		rows += len(x.Answer.Rows)
	}
	if notes < 3 || queues < 2 || rows < 2 || len(r.Desk.Done) != 3 || len(r.Desk.Locks) < 5 {
		t.Error(notes, queues, rows, len(r.Desk.Done), len(r.Desk.Locks))
	}
}

// wantZeroDesk asks all functions about an office on which no move is made; of AsksOf where it is not good.
func wantZeroDesk(t *testing.T, what string, o impl.Office, m []impl.Move, good bool) {
	t.Helper()
	if d, codes, ok := impl.PlayMoves(o, m); ok || len(codes) > 0 || !sameDesk(d, impl.Desk{}) {
		t.Error(what, d, codes, ok)
	}
	if ready, ok := impl.ReadyAfter(o, m); ok || len(ready) > 0 {
		t.Error(what, ready, ok)
	}
	if d, steps, ok := impl.FinishAfter(o, m); ok || steps != 0 || !sameDesk(d, impl.Desk{}) {
		t.Error(what, d, steps, ok)
	}
	if d, ok := impl.AbortAfter(o, m); ok || !sameDesk(d, impl.Desk{}) {
		t.Error(what, d, ok)
	}
	for _, op := range oneOfEach() {
		if asks, ok := impl.AsksOf(o, op); !good && (ok || len(asks) > 0) {
			t.Error(what, op, asks, ok)
		}
	}
}

func TestMovesOnOfficesThatAreNotGood(t *testing.T) {
	busy := busyOffice(t)
	for what, change := range officeChanges() {
		o := copyOffice(busy)
		change(&o)
		wantZeroDesk(t, what, o, submits(book("Cy", people(1), 1)), false)
		wantZeroDesk(t, what, o, nil, false)
	}
}

// A task would have the By of such a Booking, live or not.
func TestBookingsWithLateBys(t *testing.T) {
	busy := busyOffice(t)
	for _, b := range busy.Bookings {
		for _, by := range []int{5000, 5001, 5400, 9999} {
			o := copyOffice(busy)
			renameBy(&o, b.By, by)
			if !impl.GoodOffice(o) {
				t.Fatal(b, by)
			}
			wantZeroDesk(t, "a late By", o, someMoves(), true)
			wantZeroDesk(t, "a late By", o, nil, true)
			want, _ := asksByWords(o, cancel(1, 0))
			wantAsks(t, o, cancel(1, 0), want, true)
		}
		for _, by := range []int{4999, 4998, 1} {
			o := copyOffice(busy)
			renameBy(&o, b.By, by)
			if r := checkMoves(t, o, someMoves()); !r.Played {
				t.Error(b, by)
			}
		}
	}
}

func TestMaxMovesAndOneMore(t *testing.T) {
	o := twoBookings(t)
	for what, m := range map[string][]impl.Move{
		"submissions and aborts": slices.Repeat(moves(submit(book("Cy", people(1), 3)), run(0), abort(0)), 200),
		"moves that are none":    make([]impl.Move, 600),
		"whole runs":             slices.Repeat(moves(submit(quote(people(1), 3)), runs(0, 6)), 80),
		"submissions":            submits(slices.Repeat([]impl.Op{confirm(2)}, 500)...),
		"runs of nobody":         runs(5, 500),
	} {
		if r := checkMoves(t, o, m[:400]); !r.Played || len(r.Codes) != 400 {
			t.Error(what, r.Codes, r.Played)
		}
		if r := checkMoves(t, o, m[:399]); !r.Played || len(r.Codes) != 399 {
			t.Error(what, r.Codes, r.Played)
		}
		wantZeroDesk(t, what, o, m[:401], true)
		wantZeroDesk(t, what, o, m, true)
	}
	d := played(t, o, slices.Repeat(moves(submit(quote(people(1), 3)), abort(0)), 200))
	if d.Next != 5200 {
		t.Error(d.Next)
	}
	d = played(t, o, moves(slices.Repeat(moves(submit(quote(people(1), 3)), runs(0, 6), submit(impl.Op{}), run(0)), 40), submits(quote(people(1), 3))))
	if d.Next != 5081 || len(d.Done) != 80 {
		t.Error(d.Next, len(d.Done))
	}
}

func TestSlotsOutOfTheirBounds(t *testing.T) {
	o := busyOffice(t)
	full := submits(slices.Repeat([]impl.Op{manifest(1)}, 12)...)
	for _, slot := range append(numbersFarOut(), -1, 12, 13, 256, 1<<32) {
		if slot >= 0 && slot < 12 {
			continue
		}
		for _, m := range [][]impl.Move{nil, someMoves(), full} {
			refusedMove(t, o, m, run(slot), impl.RunNone)
			refusedMove(t, o, m, abort(slot), impl.RunNone)
		}
	}
	for slot := range 12 {
		played(t, o, moves(full, run(slot)))
		played(t, o, moves(full, abort(slot)))
		refusedMove(t, o, nil, run(slot), impl.RunNone)
		refusedMove(t, o, nil, abort(slot), impl.RunNone)
	}
}

func TestKindsOfMovesThatAreNone(t *testing.T) {
	o := busyOffice(t)
	for _, kind := range append(numbersFarOut(), 0, 4, 5, -1, 256+1, 1<<32+2) {
		if kind >= 1 && kind <= 3 {
			continue
		}
		for _, m := range [][]impl.Move{nil, someMoves(), submits(slices.Repeat([]impl.Op{manifest(1)}, 12)...)} {
			refusedMove(t, o, m, impl.Move{Kind: kind}, impl.RunBad)
			refusedMove(t, o, m, impl.Move{Kind: kind, Slot: 99, Op: book("Cy", people(1), 1)}, impl.RunBad)
		}
	}
}

// Any operation may be submitted; run alone it has the answer that DoOp gives, and leaves the same office.
func TestEveryChangeOfASubmittedOperation(t *testing.T) {
	o := busyOffice(t)
	numbers := append(numbersFarOut(), 0, 1, 2, 4, 5, 9, 30, 31, 10000)
	good, wrong := 0, 0
	for _, op := range append(oneOfEach(), hold("Ann", 5, withWhole(withCar(people(1), 1, 1), 1), 1, 2, 4), amend(1, everything(), 9)) {
		eachChange(reflect.ValueOf(&op).Elem(), "the operation", numbers, textsForFields(), func(what string) {
			m := submits(op)
			d, steps, ok := impl.FinishAfter(o, m)
			then, a, _ := impl.DoOp(o, 5000, op)
			if !ok || len(d.Done) != 1 || !sameDone(d.Done[0], impl.Done{By: 5000, Op: op, Answer: a}) || !sameOffice(d.Office, then) {
				t.Fatalf("%s, %+v: %+v, %v, and at once %+v, %+v", what, op, d, ok, then, a)
			}
			if most := impl.MostSteps(op); steps > most || steps < 1 || most != mostStepsByWords(op) {
				t.Fatalf("%s, %+v: %d steps, at most %d", what, op, steps, most)
			}
			asks, ok := impl.AsksOf(o, op)
			asksByWords, okByWords := asksByWords(o, op)
			if ok != okByWords || !slices.Equal(asks, asksByWords) {
				t.Fatalf("%s, %+v: %v, %v, and by the words %v, %v", what, op, asks, ok, asksByWords, okByWords)
			}
			good, wrong = good+count(a.Code == 0), wrong+count(a.Code != 0)
		})
	}
	if good < 100 || wrong < 500 {
		t.Error(good, wrong)
	}
}

func TestEveryChangeOfMoves(t *testing.T) {
	o := busyOffice(t)
	m := moves(submits(cancel(1, 0), quote(withBerths(people(1), 2, 1), 1)), runs(0, 9), runs(1, 3), abort(0), runs(1, 4))
	played, codes := 0, map[int]int{}
	eachChange(reflect.ValueOf(&m).Elem(), "the moves", append(numbersFarOut(), 0, 1, 2, 3, 4, 11, 12), textsForFields(), func(what string) {
		r := checkMoves(t, o, m)
		played += count(r.Played)
		for _, code := range r.Codes {
			codes[code]++
		}
	})
	if played < 500 || codes[impl.RunBad] == 0 || codes[impl.RunNone] == 0 || codes[impl.RunNotReady] == 0 {
		t.Error(played, codes)
	}
}

func TestEveryChangeOfAnOfficeWithMoves(t *testing.T) {
	o := busyOffice(t)
	good, wrong := 0, 0
	m := moves(submits(cancel(1, 0), book("Cy", everything(), 1), manifest(4)), runs(0, 13), runs(1, 3), runs(2, 4))
	eachChange(reflect.ValueOf(&o).Elem(), "the office", []int{0, 1, 4999, 5000, 1 << 62, -1 << 63}, textsForFields()[:3], func(what string) {
		r := checkMoves(t, o, m)
		good, wrong = good+count(r.Played), wrong+count(!r.Played)
	})
	if good < 50 || wrong < 500 {
		t.Error(good, wrong)
	}
	wantOffice(t, o, busyOffice(t))
}

// Legs of any number with an operation that is not good: they are put to Done as they are.
func TestLongOperations(t *testing.T) {
	o := twoBookings(t)
	op := quote(people(1), slices.Repeat([]int{1, 2, 3}, 1000)...)
	oneRun{op: op, answer: impl.Answer{Code: impl.AnsForm}}.check(t, o)
	op = impl.Op{Kind: -1 << 63, Owner: string(make([]byte, 5000)), Name: 1 << 62, Legs: []int{-1 << 63, 1<<63 - 1}, Party: impl.Party{People: -1, Whole: true, Berths: 1 << 40}, Until: -7, Now: 1<<63 - 1}
	oneRun{op: op, answer: impl.Answer{Code: impl.AnsForm}}.check(t, o)
}

// Memory.

type deskGiven struct {
	O     impl.Office
	Moves []impl.Move
	Op    impl.Op
}

// eachDeskForMemory has offices that are good and not, with moves that are made and refused.
func eachDeskForMemory(t *testing.T, do func(g deskGiven)) {
	busy := busyOffice(t)
	wrong := copyOffice(busy)
	wrong.Bookings[0].State = 9
	late := copyOffice(busy)
	renameBy(&late, 19, 5000)
	lists := [][]impl.Move{
		nil, someMoves(), someMoves()[:40], submits(oneOfEach()[:12]...), moves(submit(amend(1, people(20), 9, 2)), runs(0, 2), submit(amend(1, people(20), 1, 2)), runs(0, 20)),
		moves(submit(manifest(1)), runs(0, 5), submit(manifest(1)), runs(0, 3), submit(manifest(1)), runs(1, 3), submit(book("Ann", people(1), 1)), runs(2, 2)),
		moves(submit(quote(everything(), 1)), runs(0, 9), submit(cancel(1, 0)), runs(1, 11)), moves(submit(book("Ann", people(1), 1, 2)), runs(0, 6), submit(amend(9, people(1), 1, 2)), runs(0, 9)),
	}
	for _, o := range []impl.Office{busy, newOffice(t, ferries()...), {}, wrong, late, fullOffice(t, wide()...)} {
		for i, m := range lists {
			do(deskGiven{o, m, oneOfEach()[i]})
		}
		for _, op := range oneOfEach() {
			for _, steps := range []int{3, 9, 14} {
				do(deskGiven{o, moves(submit(op), runs(0, steps)), op})
			}
		}
	}
}

func TestNothingIsWrittenIntoMoves(t *testing.T) {
	eachDeskForMemory(t, func(given deskGiven) {
		for _, junk := range []int{0, 1, -1} {
			g := roomy(given, junk)
			was := allIn(g)
			askDesk(g.O, g.Moves, g.Op)
			if now := allIn(g); now != was {
				t.Fatalf("%+v: was\n%s, is\n%s", given.Moves, was, now)
			}
		}
	})
}

func TestRoomBehindMovesIsNotRead(t *testing.T) {
	eachDeskForMemory(t, func(given deskGiven) {
		want := inWords(askDesk(given.O, given.Moves, given.Op))
		for _, junk := range []int{0, 1, -1, 2} {
			g := roomy(given, junk)
			if got := inWords(askDesk(g.O, g.Moves, g.Op)); got != want {
				t.Fatalf("%+v:\n%s, not\n%s", given.Moves, got, want)
			}
		}
	})
}

// Not even the room behind two lists is the same.
func TestADesksAnswersShareNothing(t *testing.T) {
	eachDeskForMemory(t, func(given deskGiven) {
		for _, junk := range []int{0, 1} {
			g := roomy(given, junk)
			first, second := askDesk(g.O, g.Moves, g.Op), askDesk(g.O, g.Moves, g.Op)
			wantApart(t, "the desk's answers", first, second, g)
		}
	})
}

// Lists of an argument that lie in one piece of memory are apart in the answer.
func TestMovesThatShareMemory(t *testing.T) {
	o := newOffice(t, chain(0, 0, 0)...)
	o = told(t, o, 1, book("Ann", people(1), 1, 2), 1, 80)
	o = told(t, o, 2, book("Bo", people(1), 1, 2), 2, 80)
	legs := []int{1, 2, 3}
	o.Bookings[0].Legs, o.Bookings[1].Legs = legs[:2], legs[:2]
	o.Loads[1].Seats = o.Loads[0].Seats
	o.Sailings[1].Lanes, o.Sailings[1].Cabins = o.Sailings[0].Lanes, o.Sailings[0].Cabins
	op := book("Cy", people(1), legs...)
	bad := impl.Op{Legs: legs}
	for n := range 14 {
		m := moves(submits(op, op, bad, amend(1, people(2), legs...), bad, quote(people(1), legs...)), runs(0, n), runs(3, 3), run(2), runs(1, 2))
		wantApart(t, "moves that share", askDesk(o, m, op), o, m, legs)
		checkMoves(t, o, m)
	}
}

func TestADesksAnswersStayWhenTheArgumentsChange(t *testing.T) {
	eachDeskForMemory(t, func(given deskGiven) {
		g := roomy(given, 1)
		got := askDesk(g.O, g.Moves, g.Op)
		want := inWords(got)
		scribbleAll(reflect.ValueOf(&g).Elem())
		if inWords(got) != want {
			t.Fatalf("%+v, not\n%s", got, want)
		}
	})
}

func TestEmptyAndNilListsOfMovesAreTheSame(t *testing.T) {
	o := newOffice(t, sail(1, "Oslo", "Kiel", 1, 2))
	o.Sailings[0].Most = 3
	empty := copyOffice(o)
	empty.Sailings[0].Lanes, empty.Sailings[0].Cabins = []impl.Lane{}, []impl.Cabin{}
	empty.Loads[0] = impl.Load{Stays: []impl.Stay{}, Rooms: []impl.Room{}, Seats: []impl.Seat{}}
	empty.Bookings = []impl.Booking{}
	none := copyOffice(o)
	none.Sailings[0].Lanes, none.Sailings[0].Cabins, none.Loads[0], none.Bookings = nil, nil, impl.Load{}, nil
	a, b := askDesk(empty, []impl.Move{}, impl.Op{Legs: []int{}}), askDesk(none, nil, impl.Op{})
	if inWords(a) != inWords(b) || !a.Played {
		t.Errorf("%+v, and %+v", a, b)
	}
	for n := range 8 {
		with := moves(submits(book("Ann", people(1), 1), impl.Op{Kind: impl.OpConfirm, Name: 1, Legs: []int{}}), runs(0, n), runs(1, 2))
		without := moves(submits(book("Ann", people(1), 1), confirm(1)), runs(0, n), runs(1, 2))
		if a, b := askDesk(empty, with, with[1].Op), askDesk(none, without, without[1].Op); inWords(a) != inWords(b) {
			t.Errorf("%+v, and %+v", a, b)
		}
	}
}

// What was asked ahead is not to be seen in an answer.
func TestDesksHangOnNothingElse(t *testing.T) {
	o := busyOffice(t)
	r := rand.New(rand.NewSource(8))
	var lists [][]impl.Move
	var first []string
	for range 60 {
		d, _, _ := playByWords(o, nil)
		var m []impl.Move
		for range 30 {
			move := randomMove(r, d, 4)
			moveByWords(&d, move)
			m = append(m, move)
		}
		lists = append(lists, m)
		first = append(first, inWords(askDesk(o, m, confirm(2))))
	}
	for i := len(lists) - 1; i >= 0; i-- {
		impl.PlayMoves(o, someMoves())
		if again := inWords(askDesk(o, lists[i], confirm(2))); again != first[i] {
			t.Fatalf("%+v: %s, and then %s", lists[i], first[i], again)
		}
	}
}
