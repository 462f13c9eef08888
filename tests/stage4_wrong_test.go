package tests

import (
	"math"
	"slices"
	"testing"

	"loop.example/g00084/impl"
)

// numbersFarOut are no By, no lane, no length and no height.
func numbersFarOut() []int {
	return []int{-1, -2, 10001, 1 << 32, 1<<32 + 1, -1 << 32, math.MaxInt, math.MaxInt - 1, math.MaxInt / 2, math.MinInt, math.MinInt + 1}
}

// deckLanes and deckStays are a good deck with room for more.
func deckLanes() []impl.Lane { return []impl.Lane{lane(3000, 300), lane(5000, 500), lane(10, 100)} }

func deckStays() []impl.Stay {
	return []impl.Stay{stay(5, 0, 2000, 300), stay(9999, 1, 1000, 500), stay(1, 0, 500, 1), stay(7, 2, 10, 100)}
}

// wantZeroDeck asks all functions about a deck that is not good.
func wantZeroDeck(t *testing.T, what string, lanes []impl.Lane, stays []impl.Stay) {
	t.Helper()
	if goodDeckByWords(lanes, stays) {
		t.Error("good by the words:", what)
	}
	bys := []int{3, 5, 7}
	if len(stays) > 0 {
		bys = append(bys, stays[0].By, stays[len(stays)-1].By)
	}
	for _, by := range bys {
		if r := askDeck(lanes, stays, by, 1, 1); !sameDeckAnswers(r, deckAnswers{}) {
			t.Errorf("%s, by %d: %+v", what, by, r)
		}
	}
}

func TestDecksWithLanesThatAreNotGood(t *testing.T) {
	if !impl.GoodDeck(deckLanes(), deckStays()) {
		t.Fatal("this one is good")
	}
	for what, wrong := range lanesThatAreNotGood() {
		for at := range 3 {
			lanes := deckLanes()
			lanes[at] = wrong
			wantZeroDeck(t, "a lane with "+what, lanes, nil)
			wantZeroDeck(t, "a lane with "+what+" and stays", lanes, deckStays())
			wantZeroDeck(t, "a lane with "+what+" and a stay elsewhere", lanes, []impl.Stay{stay(5, (at+1)%3, 10, 100)})
		}
	}
	for _, many := range []int{5, 6, 100000} {
		wantZeroDeck(t, "too many lanes", slices.Repeat([]impl.Lane{lane(900, 200)}, many), nil)
		wantZeroDeck(t, "too many lanes and a stay", slices.Repeat([]impl.Lane{lane(900, 200)}, many), []impl.Stay{stay(5, 0, 1, 1)})
		wantZeroDeck(t, "too many lanes and a stay in the last", slices.Repeat([]impl.Lane{lane(900, 200)}, many), []impl.Stay{stay(5, 4, 1, 1)})
	}
}

func TestDecksWithAStayThatIsNotGood(t *testing.T) {
	changes := map[string][]impl.Stay{
		"nothing set":         {{}},
		"By":                  {stay(0, 1, 1, 1), stay(10000, 1, 1, 1)},
		"Lane":                {stay(3, 3, 1, 1), stay(3, 4, 1, 1)},
		"Length":              {stay(3, 1, 0, 1), stay(3, 1, 2001, 1)},
		"Height":              {stay(3, 1, 1, 0), stay(3, 1, 1, 501)},
		"higher than lane 0":  {stay(3, 0, 1, 301), stay(3, 0, 1, 500)},
		"higher than lane 2":  {stay(3, 2, 1, 101)},
		"longer than its own": {stay(3, 2, 11, 1), stay(3, 0, 501, 1), stay(3, 0, 2000, 1)},
	}
	for _, n := range numbersFarOut() {
		changes["far out"] = append(changes["far out"], stay(n, 1, 1, 1), stay(3, n, 1, 1), stay(3, 1, n, 1), stay(3, 1, 1, n), stay(n, n, n, n))
	}
	others := []impl.Stay{stay(5, 0, 2000, 300), stay(6, 0, 500, 300), stay(9999, 1, 1000, 500)}
	for what, wrongs := range changes {
		for _, wrong := range wrongs {
			for at := range len(others) + 1 {
				wantZeroDeck(t, what, deckLanes(), slices.Insert(slices.Clone(others), at, wrong))
			}
			if wrong.Lane != 0 || wrong.Length < 500 || wrong.Length > 2000 {
				wantZeroDeck(t, what+", alone", deckLanes(), []impl.Stay{wrong})
			}
			wantZeroDeck(t, what+", without lanes", nil, []impl.Stay{wrong})
		}
	}
}

func TestDecksWithAByTwice(t *testing.T) {
	lanes := deckLanes()
	cases := map[string][]impl.Stay{
		"two all alike":  {stay(5, 0, 10, 10), stay(5, 0, 10, 10)},
		"in two lanes":   {stay(5, 0, 10, 10), stay(5, 1, 20, 20)},
		"not neighbours": {stay(5, 0, 10, 10), stay(6, 0, 10, 10), stay(7, 1, 10, 10), stay(5, 1, 10, 10)},
		"the last two":   {stay(1, 0, 10, 10), stay(9999, 0, 10, 10), stay(9999, 0, 10, 10)},
		"three of one":   {stay(1, 0, 10, 10), stay(1, 1, 10, 10), stay(1, 2, 10, 10)},
	}
	for what, stays := range cases {
		wantZeroDeck(t, what, lanes, stays)
	}
	for i := range 59 {
		stays := manyStays(60, 2)
		stays[59].By = stays[i].By
		wantZeroDeck(t, "the last of 60 is one of them", lanes, stays)
	}
}

func TestLanesFilledBeyondTheirLength(t *testing.T) {
	cases := map[string]struct {
		lanes []impl.Lane
		stays []impl.Stay
	}{
		"by one":                {[]impl.Lane{lane(1000, 100)}, []impl.Stay{stay(5, 0, 500, 1), stay(6, 0, 501, 1)}},
		"by one stay":           {[]impl.Lane{lane(999, 100)}, []impl.Stay{stay(5, 0, 1000, 1)}},
		"beside a free lane":    {[]impl.Lane{lane(1000, 100), lane(5000, 100)}, []impl.Stay{stay(5, 0, 500, 1), stay(6, 0, 501, 1)}},
		"the last lane":         {[]impl.Lane{lane(5000, 100), lane(1, 100), lane(1, 100), lane(1, 100)}, []impl.Stay{stay(5, 3, 1, 1), stay(6, 3, 1, 1)}},
		"by the greatest cars":  {[]impl.Lane{lane(5000, 500)}, []impl.Stay{stay(5, 0, 2000, 1), stay(6, 0, 2000, 1), stay(7, 0, 2000, 1)}},
		"by the last of 60":     {[]impl.Lane{lane(59, 100)}, manyStays(60, 1)},
		"among others":          {[]impl.Lane{lane(10, 100), lane(10, 100)}, []impl.Stay{stay(5, 0, 9, 1), stay(6, 1, 9, 1), stay(7, 0, 1, 1), stay(8, 1, 2, 1)}},
		"sums that pass an int": {[]impl.Lane{lane(1000, 100)}, []impl.Stay{stay(5, 0, math.MaxInt, 1), stay(6, 0, math.MaxInt, 1), stay(7, 0, 3, 1)}},
		"sums that come round":  {[]impl.Lane{lane(1000, 100)}, []impl.Stay{stay(5, 0, math.MinInt, 1), stay(6, 0, math.MinInt, 1)}},
		"one takes it back":     {[]impl.Lane{lane(1000, 100)}, []impl.Stay{stay(5, 0, 1000, 1), stay(6, 0, 500, 1), stay(7, 0, -500, 1)}},
		"one gives ahead":       {[]impl.Lane{lane(1000, 100)}, []impl.Stay{stay(7, 0, -1000, 1), stay(5, 0, 1000, 1), stay(6, 0, 1000, 1)}},
	}
	for what, c := range cases {
		wantZeroDeck(t, what, c.lanes, c.stays)
	}
	if lanes := []impl.Lane{lane(60, 100)}; !impl.GoodDeck(lanes, manyStays(60, 1)) {
		t.Error("60 stays fill a lane of 60")
	}
}

func TestDecksWithTooManyStays(t *testing.T) {
	for _, many := range []int{61, 62, 9999} {
		wantZeroDeck(t, "too many stays", deckLanes(), manyStays(many, 2))
	}
	wantZeroDeck(t, "much too many", deckLanes(), make([]impl.Stay, 100000))
	wantZeroDeck(t, "stays without lanes", nil, []impl.Stay{stay(5, 0, 1, 1)})
	if !impl.GoodDeck(deckLanes(), manyStays(60, 2)) {
		t.Error("60 are not too many")
	}
}

func TestDecksThatAreGoodAtTheEdge(t *testing.T) {
	cases := map[string]struct {
		lanes []impl.Lane
		stays []impl.Stay
	}{
		"nothing":               {nil, nil},
		"lanes alone":           {deckLanes(), nil},
		"four lanes":            {slices.Repeat([]impl.Lane{lane(1, 100)}, 4), []impl.Stay{stay(1, 3, 1, 100)}},
		"the greatest lanes":    {slices.Repeat([]impl.Lane{lane(5000, 500)}, 4), []impl.Stay{stay(9999, 3, 2000, 500)}},
		"the least of all":      {[]impl.Lane{lane(1, 100)}, []impl.Stay{stay(1, 0, 1, 1)}},
		"the greatest of all":   {[]impl.Lane{lane(5000, 500)}, []impl.Stay{stay(9999, 0, 2000, 500)}},
		"filled exactly":        {[]impl.Lane{lane(4000, 100)}, []impl.Stay{stay(1, 0, 2000, 1), stay(2, 0, 2000, 100)}},
		"as many as there may":  {slices.Repeat([]impl.Lane{lane(15, 100)}, 4), manyStays(60, 4)},
		"Bys in no order":       {[]impl.Lane{lane(100, 100)}, []impl.Stay{stay(9, 0, 1, 1), stay(2, 0, 1, 1), stay(5, 0, 1, 1)}},
		"a By like a Lane":      {[]impl.Lane{lane(100, 100), lane(100, 100)}, []impl.Stay{stay(1, 0, 1, 1), stay(2, 1, 1, 1)}},
		"a deck with all of it": {deckLanes(), deckStays()},
	}
	for what, c := range cases {
		if !impl.GoodDeck(c.lanes, c.stays) || !goodDeckByWords(c.lanes, c.stays) {
			t.Error(what)
		}
	}
}

func TestCarsThatAreWrong(t *testing.T) {
	lanes, stays := []impl.Lane{lane(5000, 500), lane(5000, 500)}, []impl.Stay{stay(5, 0, 100, 100), stay(77, 1, 100, 100)}
	for _, by := range append(numbersFarOut(), 0, 10000, 5, 77) {
		refuse(t, lanes, stays, by, 1, 1)
		refuse(t, lanes, stays, by, 2000, 500)
	}
	for _, length := range append(numbersFarOut(), 0, 2001, 4900, 5000) {
		refuse(t, lanes, stays, 1, length, 1)
		refuse(t, lanes, nil, 1, length, 500)
	}
	for _, height := range append(numbersFarOut(), 0, 501) {
		refuse(t, lanes, stays, 1, 1, height)
		refuse(t, lanes, nil, 1, 2000, height)
	}
	for _, n := range numbersFarOut() {
		refuse(t, lanes, stays, n, n, n)
	}
	for _, c := range []impl.Stay{stay(1, 0, 1, 1), stay(9999, 0, 2000, 500), stay(4, 0, 1, 500), stay(6, 0, 2000, 1)} {
		place(t, lanes, stays, c)
	}
}

func TestTakingOffWhoHasNoStay(t *testing.T) {
	lanes, stays := deckLanes(), deckStays()
	for _, by := range append(numbersFarOut(), 0, 2, 3, 4, 6, 8, 9998, 10000) {
		if got, ok := impl.TakeOff(lanes, stays, by); ok || len(got) > 0 {
			t.Error(by, got, ok)
		}
		if got, ok := impl.TakeOff(lanes, nil, by); ok || len(got) > 0 {
			t.Error(by, got, ok)
		}
	}
	if got, ok := impl.TakeOff(nil, nil, 1); ok || len(got) > 0 {
		t.Error(got, ok)
	}
}

func lanesWithRoom(lanes []impl.Lane, behind ...impl.Lane) []impl.Lane {
	return append(slices.Clone(lanes), behind...)[:len(lanes)]
}

func staysWithRoom(stays []impl.Stay, behind ...impl.Stay) []impl.Stay {
	return append(slices.Clone(stays), behind...)[:len(stays)]
}

// scribbleDeckAnswers writes over all lists, the room behind them too.
func scribbleDeckAnswers(r deckAnswers) {
	scribbleNumbers(r.Free)
	scribbleStays(r.Placed)
	scribbleStays(r.Left)
}

func scribbleStays(l []impl.Stay) {
	l = l[:cap(l)]
	for i := range l {
		l[i] = stay(-7, -7, -7, -7)
	}
}

func scribbleLanes(l []impl.Lane) {
	l = l[:cap(l)]
	for i := range l {
		l[i] = lane(-7, -7)
	}
}

func copyDeckAnswers(r deckAnswers) deckAnswers {
	r.Free, r.Placed, r.Left = slices.Clone(r.Free), slices.Clone(r.Placed), slices.Clone(r.Left)
	return r
}

// eachDeckForMemory goes over decks and cars of many kinds.
func eachDeckForMemory(do func(lanes []impl.Lane, stays []impl.Stay, by, length, height int)) {
	allLanes := [][]impl.Lane{nil, deckLanes(), slices.Repeat([]impl.Lane{lane(5000, 500)}, 4), slices.Repeat([]impl.Lane{lane(5000, 500)}, 5), {lane(3000, 300), lane(0, 100)}}
	allStays := [][]impl.Stay{nil, deckStays(), deckStays()[:1], manyStays(59, 2), manyStays(60, 2), manyStays(61, 2), {stay(5, 0, 1, 1), stay(5, 0, 1, 1)}, {stay(5, 9, 1, 1)}}
	for _, lanes := range allLanes {
		for _, stays := range allStays {
			for _, by := range []int{0, 1, 5, 7, 60, 99, 9999} {
				do(lanes, stays, by, 1, 1)
				do(lanes, stays, by, 600, 400)
			}
		}
	}
}

func TestNothingIsWrittenIntoADeck(t *testing.T) {
	eachDeckForMemory(func(plainLanes []impl.Lane, plainStays []impl.Stay, by, length, height int) {
		lanes, stays := lanesWithRoom(plainLanes, lane(800, 200), lane(-3, 7)), staysWithRoom(plainStays, stay(99, 0, 3, 3), stay(-1, -2, -3, -4))
		wasLanes, wasStays := slices.Clone(lanes[:cap(lanes)]), slices.Clone(stays[:cap(stays)])
		r := askDeck(lanes, stays, by, length, height)
		if !slices.Equal(lanes[:cap(lanes)], wasLanes) || !slices.Equal(stays[:cap(stays)], wasStays) {
			t.Fatalf("written into: %+v on %+v", plainStays, plainLanes)
		}
		scribbleDeckAnswers(r)
		if !slices.Equal(lanes[:cap(lanes)], wasLanes) || !slices.Equal(stays[:cap(stays)], wasStays) {
			t.Fatalf("an answer shares memory with %+v on %+v", plainStays, plainLanes)
		}
	})
}

func TestDeckAnswersStayWhenTheArgumentChanges(t *testing.T) {
	eachDeckForMemory(func(plainLanes []impl.Lane, plainStays []impl.Stay, by, length, height int) {
		lanes, stays := lanesWithRoom(plainLanes, lane(800, 200)), staysWithRoom(plainStays, stay(99, 0, 3, 3), stay(98, 0, 3, 3))
		r := askDeck(lanes, stays, by, length, height)
		was := copyDeckAnswers(r)
		scribbleLanes(lanes)
		scribbleStays(stays)
		if !sameDeckAnswers(r, was) {
			t.Fatalf("an answer changed with its argument: %+v on %+v", plainStays, plainLanes)
		}
	})
}

func TestTwoDeckAnswersShareNothing(t *testing.T) {
	eachDeckForMemory(func(lanes []impl.Lane, stays []impl.Stay, by, length, height int) {
		first, second := askDeck(lanes, stays, by, length, height), askDeck(lanes, stays, by, length, height)
		was := copyDeckAnswers(second)
		scribbleDeckAnswers(first)
		if !sameDeckAnswers(second, was) || !sameDeckAnswers(askDeck(lanes, stays, by, length, height), was) {
			t.Fatalf("two answers share memory: %+v on %+v", stays, lanes)
		}
	})
}

// Behind the length stand lanes with room and stays that would fill or spoil the deck.
func TestRoomBehindADeckIsNotRead(t *testing.T) {
	behindLanes := [][]impl.Lane{{lane(5000, 500)}, {lane(0, 0), lane(5000, 500)}, slices.Repeat([]impl.Lane{lane(777, 444)}, 5)}
	behindStays := [][]impl.Stay{{stay(4321, 0, 1, 1)}, {stay(1, 0, 2000, 1), stay(5, 1, 2000, 1)}, make([]impl.Stay, 70), {stay(99, 0, 1, 1)}}
	for _, moreLanes := range behindLanes {
		for _, moreStays := range behindStays {
			eachDeckForMemory(func(lanes []impl.Lane, stays []impl.Stay, by, length, height int) {
				r, want := askDeck(lanesWithRoom(lanes, moreLanes...), staysWithRoom(stays, moreStays...), by, length, height), deckByWords(lanes, stays, by, length, height)
				if !sameDeckAnswers(r, want) {
					t.Fatalf("%+v on %+v, by %d: got %+v, want %+v", stays, lanes, by, r, want)
				}
				checkRoomBehind(t, r)
			})
		}
	}
}

// checkRoomBehind looks that nothing stands behind the lists of an answer.
func checkRoomBehind(t *testing.T, r deckAnswers) {
	t.Helper()
	behind := slices.Concat(r.Placed[len(r.Placed):cap(r.Placed)], r.Left[len(r.Left):cap(r.Left)])
	if slices.ContainsFunc(behind, func(s impl.Stay) bool { return s != impl.Stay{} }) {
		t.Fatalf("stays were handed out behind the length: %+v", behind)
	}
	if numbers := r.Free[len(r.Free):cap(r.Free)]; slices.ContainsFunc(numbers, func(n int) bool { return n != 0 }) {
		t.Fatalf("lengths were handed out behind the length: %v", numbers)
	}
}

func TestEmptyAndNilDecksAreTheSame(t *testing.T) {
	empty, none := askDeck([]impl.Lane{}, []impl.Stay{}, 1, 1, 1), askDeck(nil, nil, 1, 1, 1)
	if want := (deckAnswers{Good: true, FreeOk: true}); !sameDeckAnswers(empty, want) || !sameDeckAnswers(none, want) {
		t.Error(empty, none)
	}
	lanes := deckLanes()
	if !sameDeckAnswers(askDeck(lanes, []impl.Stay{}, 1, 1, 1), askDeck(lanes, nil, 1, 1, 1)) {
		t.Error("stays")
	}
}
