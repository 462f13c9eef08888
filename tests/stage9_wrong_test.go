package tests

import (
	"math/rand"
	"reflect"
	"slices"
	"testing"

	"loop.example/g00084/impl"
)

// wantUnseen asks about an office that is not good, with any moves and nothing or something done.
func wantUnseen(t *testing.T, what string, o impl.Office) {
	t.Helper()
	if v, good := impl.ViewOf(o); good || !sameView(v, impl.View{}) {
		t.Errorf("%s: %+v, %v", what, v, good)
	}
	wantNoReplay(t, what, o, nil)
	wantNoReplay(t, what, o, []impl.Done{{By: 77, Op: manifest(1)}})
	wantNotClean(t, what, o, nil)
	wantNotClean(t, what, o, submits(book("Cy", people(1), 1)))
}

func wantNotClean(t *testing.T, what string, o impl.Office, m []impl.Move) {
	t.Helper()
	if v, good := impl.CleanAfter(o, m); good || !sameView(v, impl.View{}) {
		t.Errorf("%s: %+v, %v", what, v, good)
	}
}

func TestOfficesThatAreNotSeen(t *testing.T) {
	busy := busyOffice(t)
	for what, change := range officeChanges() {
		o := copyOffice(busy)
		change(&o)
		wantUnseen(t, what, o)
	}
	o := fullOffice(t, wide()...)
	more := o.Bookings[1]
	more.Name, more.By = 31, 31
	o.Bookings = append(o.Bookings, more)
	wantUnseen(t, "31 bookings", o)
	for what, s := range sailingsThatAreNotGood() {
		wantUnseen(t, what, impl.Office{Sailings: []impl.Sailing{s}, Loads: make([]impl.Load, 1)})
	}
	wantUnseen(t, "seven sailings", impl.Office{Sailings: sailingsWithIds(1, 2, 3, 4, 5, 6, 7), Loads: make([]impl.Load, 7)})
}

// Such an office is seen and replayed on, though no move is made there.
func TestOfficesWithLateBysAreSeen(t *testing.T) {
	busy := busyOffice(t)
	for _, by := range []int{5000, 5001, 9999} {
		o := copyOffice(busy)
		renameBy(&o, 19, by)
		viewed(t, o)
		replayed(t, o, nil)
		replayed(t, o, []impl.Done{{By: 4999, Op: cancel(1, 0)}, {By: 5002, Op: book("Cy", people(1), 1)}})
		wantNoReplay(t, "the By of a Booking", o, []impl.Done{{By: by, Op: manifest(1)}})
		wantPairs(t, "late Bys", busy, o, 1003, 1004, 1005, 1006, 1007, 1008, 1012, 1013, 1014)
		wantNotClean(t, "late Bys", o, nil)
		wantNotClean(t, "late Bys", o, someMoves())
	}
}

func TestCleanViewsOfMaxMovesAndOneMore(t *testing.T) {
	o := twoBookings(t)
	for what, m := range map[string][]impl.Move{
		"whole runs":          slices.Repeat(moves(submit(quote(people(1), 3)), runs(0, 6)), 80),
		"moves that are none": make([]impl.Move, 600),
		"bookings":            slices.Repeat(moves(submit(book("Cy", people(1), 3)), runs(0, 4)), 100),
		"aborts":              slices.Repeat(moves(submit(cancel(1, 0)), runs(0, 12), abort(0)), 40),
	} {
		checkOneAfterTheOther(t, o, m[:399])
		checkOneAfterTheOther(t, o, m[:400])
		wantNotClean(t, what, o, m[:401])
		wantNotClean(t, what, o, m)
	}
}

// Operations that are not good are answered by their code, by numbers of any size.
func TestReplaysOfOperationsThatAreNotGood(t *testing.T) {
	o := busyOffice(t)
	numbers := append(numbersFarOut(), 0, 1, 2, 5, 9, 30, 31)
	codes := map[int]int{}
	for _, op := range append(oneOfEach(), amend(1, everything(), 9)) {
		eachChange(reflect.ValueOf(&op).Elem(), "the operation", numbers, textsForFields(), func(what string) {
			then, all := replayed(t, o, []impl.Done{{By: 77, Op: op}})
			want, a, _ := impl.DoOp(o, 77, op)
			if len(all) != 1 || !sameAnswer(all[0], a) || !sameOffice(then, want) {
				t.Fatalf("%s: %+v: %+v, and at once %+v", what, op, all, a)
			}
			codes[a.Code]++
		})
	}
	if codes[impl.AnsOk] < 100 || codes[impl.AnsForm] < 500 {
		t.Error(codes)
	}
	long := quote(people(1), slices.Repeat([]int{1, 2, 3}, 1000)...)
	if _, all := replayed(t, o, []impl.Done{{By: 77, Op: long}}); all[0].Code != impl.AnsForm {
		t.Error(all)
	}
}

// Loads and Sailings of two offices.

func TestOfficesThatDoNotSailAlike(t *testing.T) {
	o := busyOffice(t)
	for what, change := range map[string]func(l []impl.Sailing) []impl.Sailing{
		"another Id":       func(l []impl.Sailing) []impl.Sailing { l[3].Id = 10; return l },
		"another From":     func(l []impl.Sailing) []impl.Sailing { l[0].From = "Olso"; return l },
		"another To":       func(l []impl.Sailing) []impl.Sailing { l[0].To = "kiel"; return l },
		"another Depart":   func(l []impl.Sailing) []impl.Sailing { l[1].Depart--; return l },
		"another Arrive":   func(l []impl.Sailing) []impl.Sailing { l[2].Arrive++; return l },
		"another Most":     func(l []impl.Sailing) []impl.Sailing { l[3].Most++; return l },
		"a lane's Length":  func(l []impl.Sailing) []impl.Sailing { l[0].Lanes[1].Length++; return l },
		"a lane's Height":  func(l []impl.Sailing) []impl.Sailing { l[2].Lanes[0].Height++; return l },
		"one lane less":    func(l []impl.Sailing) []impl.Sailing { l[1].Lanes = nil; return l },
		"one lane more":    func(l []impl.Sailing) []impl.Sailing { l[3].Lanes = []impl.Lane{lane(1, 100)}; return l },
		"the lanes' order": func(l []impl.Sailing) []impl.Sailing { slices.Reverse(l[0].Lanes); return l },
		"a cabin's Class":  func(l []impl.Sailing) []impl.Sailing { l[0].Cabins[0].Class = 3; return l },
		"a cabin's Berths": func(l []impl.Sailing) []impl.Sailing { l[0].Cabins[2].Berths--; return l },
		"one cabin less":   func(l []impl.Sailing) []impl.Sailing { l[0].Cabins = l[0].Cabins[:2]; return l },
		"one cabin more":   func(l []impl.Sailing) []impl.Sailing { l[3].Cabins = []impl.Cabin{cabin(1, 1)}; return l },
		"one sailing less": func(l []impl.Sailing) []impl.Sailing { return l[:3] },
		"one sailing more": func(l []impl.Sailing) []impl.Sailing { return append(l, sail(20, "Oslo", "Kiel", 1, 2)) },
		"no sailings":      func(l []impl.Sailing) []impl.Sailing { return nil },
	} {
		c := copyOffice(o)
		c.Sailings = change(c.Sailings)
		if !impl.GoodTimetable(c.Sailings) {
			t.Fatal(what)
		}
		wantNoPairs(t, what, o, c)
		for len(c.Loads) < len(c.Sailings) {
			c.Loads = append(c.Loads, impl.Load{})
		}
		c.Loads = c.Loads[:len(c.Sailings)]
		wantNoPairs(t, what+", with as many Loads", o, c)
	}
}

func TestFewerOrMoreLoadsThanSailings(t *testing.T) {
	for _, o := range []impl.Office{busyOffice(t), newOffice(t, ferries()...), {}} {
		for many := range 8 {
			c := copyOffice(o)
			c.Loads = append(c.Loads[:min(many, len(c.Loads))], make([]impl.Load, max(0, many-len(c.Loads)))...)
			if many == len(o.Sailings) {
				wantPairs(t, "as many", o, c)
				continue
			}
			wantNoPairs(t, "one of them", o, c)
			wantNoPairs(t, "both of them", c, c)
		}
	}
}

func TestChangedPairsOfTimetablesThatAreNotGood(t *testing.T) {
	for what, s := range sailingsThatAreNotGood() {
		for _, l := range [][]impl.Sailing{{s}, {fullSailing(1), s}} {
			o := impl.Office{Sailings: l, Loads: make([]impl.Load, len(l))}
			c := copyOffice(o)
			wantNoPairs(t, what, o, c)
			c.Loads[0].Seats = []impl.Seat{seat(1, 1)}
			wantNoPairs(t, what, o, c)
		}
	}
	for _, ids := range [][]int{{2, 1}, {1, 1}, {1, 2, 3, 4, 5, 6, 7}, {0}, {100}, {-1, 1}} {
		o := impl.Office{Sailings: sailingsWithIds(ids...), Loads: make([]impl.Load, len(ids))}
		wantNoPairs(t, "Ids", o, copyOffice(o))
	}
	many := impl.Office{Sailings: make([]impl.Sailing, 500), Loads: make([]impl.Load, 500)}
	wantNoPairs(t, "500", many, many)
}

// Every field of all that is given is changed, one after the other.

func givenForChanges(t *testing.T) seenGiven {
	o := busyOffice(t)
	m := moves(submits(cancel(1, 0), book("Cy", everything(), 1), manifest(9)), runs(0, 15), runs(1, 2), runs(2, 5))
	d, _, good := impl.PlayMoves(o, m)
	if !good || len(d.Tasks) != 2 || len(d.Done) != 1 {
		t.Fatalf("%+v", d)
	}
	finished, _, _ := impl.FinishAfter(o, m)
	_, all := replayed(t, o, finished.Done)
	return seenGiven{O: o, Other: d.Office, Done: finished.Done, Answers: all, Moves: m}
}

func TestEveryChangeOfAnOfficeThatIsSeen(t *testing.T) {
	g := givenForChanges(t)
	good, wrong, clean := 0, 0, 0
	eachChange(reflect.ValueOf(&g.O).Elem(), "the office", []int{0, 1, 5000, 1 << 62, -1 << 63}, textsForFields()[:3], func(what string) {
		r := checkGiven(t, what, g)
		good, wrong, clean = good+count(r.ViewOk), wrong+count(!r.ViewOk), clean+count(r.CleanOk)
	})
	if good < 50 || wrong < 500 || clean < 50 || clean >= good {
		t.Error(good, wrong, clean)
	}
}

func TestEveryChangeOfTheOtherOffice(t *testing.T) {
	g := givenForChanges(t)
	many := map[int]int{}
	eachChange(reflect.ValueOf(&g.Other).Elem(), "the other office", []int{0, 1 << 62}, textsForFields()[:2], func(what string) {
		for _, two := range [][2]impl.Office{{g.O, g.Other}, {g.Other, g.O}, {g.Other, g.Other}} {
			got, good := impl.PairsChanged(two[0], two[1])
			want, goodByWords := pairsByWords(two[0], two[1])
			if good != goodByWords || !slices.Equal(got, want) {
				t.Fatal(what, got, good, want, goodByWords)
			}
			many[len(got)]++
			many[-1] += count(!good)
		}
	})
	if many[0] < 100 || many[4] < 50 || many[5] < 50 || many[-1] < 100 {
		t.Error(many)
	}
}

func TestEveryChangeOfWhatIsDone(t *testing.T) {
	g := givenForChanges(t)
	g.Moves = nil
	if r := checkGiven(t, "nothing", g); !r.Same || !r.ReplayOk || len(r.Answers) != 3 {
		t.Fatalf("%+v", r)
	}
	good, wrong, same := 0, 0, 0
	check := func(what string) {
		r := checkGiven(t, what, g)
		good, wrong, same = good+count(r.ReplayOk), wrong+count(!r.ReplayOk), same+count(r.Same)
	}
	eachChange(reflect.ValueOf(&g.Done).Elem(), "what is done", append(numbersFarOut(), 0, 19), textsForFields()[:3], check)
	eachChange(reflect.ValueOf(&g.Answers).Elem(), "the answers", []int{0, 1 << 62}, textsForFields()[:3], check)
	if good < 300 || wrong < 10 || same < 100 {
		t.Error(good, wrong, same)
	}
}

func TestEveryChangeOfMovesThatAreSeen(t *testing.T) {
	g := givenForChanges(t)
	seen := map[string]int{}
	eachChange(reflect.ValueOf(&g.Moves).Elem(), "the moves", append(numbersFarOut(), 0, 1, 2, 3), textsForFields()[:3], func(what string) {
		clean, good := impl.CleanAfter(g.O, g.Moves)
		if want, goodByWords := cleanByWords(g.O, g.Moves); good != goodByWords || !sameView(clean, want) {
			t.Fatalf("%s: %+v, %v, and by the words %+v, %v", what, clean, good, want, goodByWords)
		}
		seen[inWords(clean)]++
	})
	if len(seen) < 2 {
		t.Error(len(seen))
	}
}

// Memory.

// eachSeenForMemory has offices that are good and not, with what is done behind moves and what never was.
func eachSeenForMemory(t *testing.T, do func(g seenGiven)) {
	busy := busyOffice(t)
	wrong := copyOffice(busy)
	wrong.Bookings[0].State = 9
	late := copyOffice(busy)
	renameBy(&late, 19, 5000)
	lists := [][]impl.Move{nil, someMoves(), someMoves()[:40], moves(submits(oneOfEach()[:12]...), runs(0, 9), runs(8, 9), runs(3, 9)), moves(submit(amend(1, people(20), 9, 2)), runs(0, 2), submit(amend(1, people(20), 1, 2)), runs(0, 20))}
	for _, o := range []impl.Office{busy, seenOffice(t), newOffice(t, ferries()...), {}, wrong, late, fullOffice(t, wide()...)} {
		for _, m := range lists {
			d, _, good := impl.FinishAfter(o, m)
			if !good {
				d, _, _ = impl.FinishAfter(busy, m)
			}
			_, all, _ := impl.ReplayDone(o, d.Done)
			half, _, _ := impl.PlayMoves(o, m)
			for _, other := range []impl.Office{d.Office, half.Office, o} {
				do(seenGiven{O: o, Other: other, Done: d.Done, Answers: all, Moves: m})
			}
		}
		do(seenGiven{O: o, Other: wrong, Done: []impl.Done{{By: 0, Op: manifest(1)}}, Answers: someAnswers()})
		do(seenGiven{O: o, Done: doneBy(77, 77, 78), Answers: []impl.Answer{{}}, Moves: make([]impl.Move, 401)})
		do(seenGiven{O: o, Other: o, Done: answered(someAnswers()...), Answers: someAnswers()})
	}
}

func TestSeenForMemoryMeetsAll(t *testing.T) {
	var views, replays, cleans, pairs, same, rows int
	eachSeenForMemory(t, func(g seenGiven) {
		r := checkGiven(t, "for memory", g)
		views, replays, cleans = views+count(r.ViewOk), replays+count(r.ReplayOk), cleans+count(r.CleanOk)
		pairs, same = pairs+count(len(r.Pairs) > 1), same+count(r.Same)
		for _, a := range r.Answers {
			rows += len(a.Rows)
		}
	})
	if views < 50 || replays < 50 || cleans < 50 || pairs < 10 || same < 10 || rows < 20 {
		t.Error(views, replays, cleans, pairs, same, rows)
	}
}

func TestNothingIsWrittenIntoWhatIsSeen(t *testing.T) {
	eachSeenForMemory(t, func(given seenGiven) {
		for _, junk := range []int{0, 1, -1} {
			g := roomy(given, junk)
			was := allIn(g)
			askSeen(g)
			if now := allIn(g); now != was {
				t.Fatalf("was\n%s, is\n%s", was, now)
			}
		}
	})
}

func TestRoomBehindWhatIsSeenIsNotRead(t *testing.T) {
	eachSeenForMemory(t, func(given seenGiven) {
		want := inWords(askSeen(given))
		for _, junk := range []int{0, 1, -1, 77} {
			if got := inWords(askSeen(roomy(given, junk))); got != want {
				t.Fatalf("%+v:\n%s, not\n%s", given, got, want)
			}
		}
	})
}

// Not even the room behind two lists is the same.
func TestWhatIsSeenSharesNothing(t *testing.T) {
	eachSeenForMemory(t, func(given seenGiven) {
		for _, junk := range []int{0, 1} {
			g := roomy(given, junk)
			wantApart(t, "what is seen", askSeen(g), askSeen(g), g)
		}
	})
}

// Nothing that was given lies behind the lists that are handed out.
func TestNothingIsHandedOutBehindWhatIsSeen(t *testing.T) {
	eachSeenForMemory(t, func(given seenGiven) {
		want := allIn(askSeen(given))
		for _, junk := range []int{0, -77} {
			if got := allIn(askSeen(roomy(given, junk))); got != want {
				t.Fatalf("%s, not\n%s", got, want)
			}
		}
	})
}

// Lists of an argument that lie in one piece of memory are apart in the answer.
func TestWhatIsSeenOfListsThatShareMemory(t *testing.T) {
	o := newOffice(t, chain(0, 0, 0)...)
	o = told(t, o, 1, book("Ann", people(1), 1, 2), 1, 80)
	o = told(t, o, 2, book("Bo", people(1), 1, 2), 2, 80)
	legs := []int{1, 2, 3}
	o.Bookings[0].Legs, o.Bookings[1].Legs = legs[:2], legs[:2]
	o.Loads[1].Seats = o.Loads[0].Seats
	o.Sailings[1].Lanes, o.Sailings[1].Cabins = o.Sailings[0].Lanes, o.Sailings[0].Cabins
	rows := []impl.Row{{Name: 1}}
	d := []impl.Done{{By: 3, Op: book("Cy", people(1), legs...), Answer: impl.Answer{Rows: rows}}, {By: 4, Op: book("Di", people(1), legs...), Answer: impl.Answer{Rows: rows}}, {By: 5, Op: manifest(1)}, {By: 5, Op: manifest(1)}}
	g := seenGiven{O: o, Other: o, Done: d, Answers: []impl.Answer{{Rows: rows}}, Moves: submits(d[0].Op, d[1].Op, cancel(1, 0), cancel(2, 0))}
	for slot := range 4 {
		g.Moves = moves(g.Moves, runs(slot, 5))
		checkGiven(t, "lists that share", g)
		wantApart(t, "lists that share", askSeen(g), g, legs, rows)
	}
}

func TestWhatIsSeenStaysWhenTheArgumentsChange(t *testing.T) {
	eachSeenForMemory(t, func(given seenGiven) {
		g := roomy(given, 1)
		got := askSeen(g)
		want := inWords(got)
		scribbleAll(reflect.ValueOf(&g).Elem())
		if inWords(got) != want {
			t.Fatalf("%+v, not\n%s", got, want)
		}
	})
}

func TestWhatIsSeenOfEmptyAndNilListsIsTheSame(t *testing.T) {
	none := newOffice(t, sail(1, "Oslo", "Kiel", 1, 2))
	none.Sailings[0].Lanes, none.Sailings[0].Cabins, none.Loads[0], none.Bookings = nil, nil, impl.Load{}, nil
	empty := copyOffice(none)
	empty.Sailings[0].Lanes, empty.Sailings[0].Cabins = []impl.Lane{}, []impl.Cabin{}
	empty.Loads[0] = impl.Load{Stays: []impl.Stay{}, Rooms: []impl.Room{}, Seats: []impl.Seat{}}
	empty.Bookings = []impl.Booking{}
	a := askSeen(seenGiven{O: empty, Other: none, Done: []impl.Done{}, Answers: []impl.Answer{}, Moves: []impl.Move{}})
	b := askSeen(seenGiven{O: none, Other: empty})
	if inWords(a) != inWords(b) || !a.ViewOk || !a.ReplayOk || !a.Same || !a.CleanOk || !a.PairsOk || len(a.Pairs) > 0 {
		t.Errorf("%+v, and %+v", a, b)
	}
}

// What was asked ahead is not to be seen in an answer, nor the order in which a map is gone through.
func TestWhatIsSeenHangsOnNothingElse(t *testing.T) {
	o := busyOffice(t)
	r := rand.New(rand.NewSource(10))
	var all []seenGiven
	var first []string
	for range 60 {
		m := drawnRun(r, o, 5)
		m = m[:r.Intn(len(m)+1)]
		d, _, _ := impl.PlayMoves(o, m)
		g := seenGiven{O: o, Other: d.Office, Done: d.Done, Moves: m}
		all, first = append(all, g), append(first, inWords(askSeen(g)))
	}
	for i := len(all) - 1; i >= 0; i-- {
		impl.ViewOf(all[0].Other)
		for range 5 {
			if again := inWords(askSeen(all[i])); again != first[i] {
				t.Fatalf("%+v: %s, and then %s", all[i], first[i], again)
			}
		}
	}
}
