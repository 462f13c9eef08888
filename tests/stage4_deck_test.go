package tests

import (
	"math/rand"
	"slices"
	"testing"

	"loop.example/g00084/impl"
)

// place puts a car on the deck, which must have room for it in that lane.
func place(t *testing.T, lanes []impl.Lane, stays []impl.Stay, s impl.Stay) []impl.Stay {
	t.Helper()
	got, number, ok := impl.PlaceCar(lanes, stays, s.By, s.Length, s.Height)
	if !ok || number != s.Lane || !slices.Equal(got, append(slices.Clone(stays), s)) {
		t.Fatalf("placing %+v: %+v, lane %d, %v", s, got, number, ok)
	}
	if !impl.GoodDeck(lanes, got) {
		t.Fatalf("placing %+v: not good: %+v", s, got)
	}
	return got
}

func refuse(t *testing.T, lanes []impl.Lane, stays []impl.Stay, by, length, height int) {
	t.Helper()
	if got, number, ok := impl.PlaceCar(lanes, stays, by, length, height); ok || number != 0 || len(got) > 0 {
		t.Errorf("by %d, length %d, height %d: %+v, lane %d, %v", by, length, height, got, number, ok)
	}
}

func takeOff(t *testing.T, lanes []impl.Lane, stays []impl.Stay, by int, want ...impl.Stay) []impl.Stay {
	t.Helper()
	got, ok := impl.TakeOff(lanes, stays, by)
	if !ok || !slices.Equal(got, want) {
		t.Fatalf("taking off %d: %+v, %v", by, got, ok)
	}
	return got
}

func wantFree(t *testing.T, lanes []impl.Lane, stays []impl.Stay, want ...int) {
	t.Helper()
	if got, ok := impl.FreeLengths(lanes, stays); !ok || !slices.Equal(got, want) {
		t.Errorf("%+v on %+v: free are %v, %v, want %v", stays, lanes, got, ok, want)
	}
}

func TestDeckConstants(t *testing.T) {
	if impl.MaxStays != 60 {
		t.Error(impl.MaxStays)
	}
}

func TestACarInTheFirstLane(t *testing.T) {
	lanes := []impl.Lane{lane(1000, 200), lane(1000, 200)}
	stays := place(t, lanes, nil, stay(7, 0, 450, 150))
	stays = place(t, lanes, stays, stay(3, 0, 100, 200))
	wantFree(t, lanes, stays, 450, 1000)
}

func TestACarInALaterLaneByHeight(t *testing.T) {
	lanes := []impl.Lane{lane(1000, 200), lane(1000, 199), lane(1000, 300), lane(1000, 500)}
	stays := place(t, lanes, nil, stay(1, 2, 400, 201))
	stays = place(t, lanes, stays, stay(2, 3, 400, 301))
	stays = place(t, lanes, stays, stay(3, 0, 400, 200))
	wantFree(t, lanes, stays, 600, 1000, 600, 600)
}

func TestACarInALaterLaneByLength(t *testing.T) {
	lanes := []impl.Lane{lane(300, 200), lane(500, 200), lane(800, 200)}
	stays := place(t, lanes, nil, stay(1, 1, 301, 150))
	stays = place(t, lanes, stays, stay(2, 2, 400, 150))
	stays = place(t, lanes, stays, stay(3, 2, 301, 150))
	stays = place(t, lanes, stays, stay(4, 0, 250, 150))
	stays = place(t, lanes, stays, stay(5, 1, 100, 150))
	wantFree(t, lanes, stays, 50, 99, 99)
}

// The lane that is high enough is too short, and the long one too low.
func TestACarInNoLane(t *testing.T) {
	lanes := []impl.Lane{lane(900, 200), lane(300, 400)}
	refuse(t, lanes, nil, 1, 301, 201)
	refuse(t, lanes, nil, 1, 901, 150)
	refuse(t, lanes, nil, 1, 100, 401)
	stays := place(t, lanes, nil, stay(1, 0, 301, 200))
	stays = place(t, lanes, stays, stay(2, 1, 300, 201))
	refuse(t, lanes, stays, 3, 1, 201)
	refuse(t, lanes, stays, 3, 600, 100)
	place(t, lanes, stays, stay(3, 0, 599, 100))
	refuse(t, nil, nil, 1, 1, 1)
}

func TestALaneFilledExactly(t *testing.T) {
	lanes := []impl.Lane{lane(1000, 300)}
	refuse(t, lanes, nil, 1, 1001, 100)
	wantFree(t, lanes, place(t, lanes, nil, stay(1, 0, 1000, 100)), 0)
	stays := place(t, lanes, nil, stay(1, 0, 999, 100))
	refuse(t, lanes, stays, 2, 2, 100)
	stays = place(t, lanes, stays, stay(2, 0, 1, 100))
	wantFree(t, lanes, stays, 0)
	refuse(t, lanes, stays, 3, 1, 100)
	over := []impl.Stay{stay(1, 0, 999, 100), stay(2, 0, 2, 100)}
	if impl.GoodDeck(lanes, over) || !impl.GoodDeck(lanes, stays) {
		t.Error("filled exactly is good, one more is not")
	}
}

func TestAHeightMetExactly(t *testing.T) {
	lanes := []impl.Lane{lane(1000, 300), lane(1000, 100)}
	stays := place(t, lanes, nil, stay(1, 0, 100, 300))
	refuse(t, lanes, stays, 2, 100, 301)
	if !impl.GoodDeck(lanes, []impl.Stay{stay(1, 1, 100, 100)}) || impl.GoodDeck(lanes, []impl.Stay{stay(1, 1, 100, 101)}) {
		t.Error("as high as the lane is good, one more is not")
	}
	if impl.GoodDeck(lanes, []impl.Stay{stay(1, 0, 100, 301)}) {
		t.Error("higher than the lane")
	}
}

func TestTheStayIsBehindTheOthers(t *testing.T) {
	lanes := []impl.Lane{lane(100, 100), lane(2000, 200)}
	stays := []impl.Stay{stay(9, 1, 5, 120), stay(2, 0, 4, 1), stay(5, 1, 3, 200)}
	stays = place(t, lanes, stays, stay(1, 0, 96, 100))
	stays = place(t, lanes, stays, stay(9999, 1, 1, 1))
	place(t, lanes, stays, stay(4, 1, 1991, 200))
}

func TestCarsOfTheGreatestAndTheLeast(t *testing.T) {
	lanes := []impl.Lane{lane(5000, 500)}
	stays := place(t, lanes, nil, stay(1, 0, 2000, 500))
	stays = place(t, lanes, stays, stay(9999, 0, 2000, 1))
	stays = place(t, lanes, stays, stay(2, 0, 1, 1))
	refuse(t, lanes, stays, 3, 2000, 500)
	wantFree(t, lanes, stays, 999)
}

func TestFreeLengthsOfEveryLane(t *testing.T) {
	wantFree(t, nil, nil)
	lanes := []impl.Lane{lane(1, 100), lane(5000, 100), lane(70, 100), lane(8, 500)}
	wantFree(t, lanes, nil, 1, 5000, 70, 8)
	stays := []impl.Stay{stay(4, 3, 8, 500), stay(1, 1, 2000, 1), stay(2, 2, 69, 9), stay(8, 1, 2000, 2), stay(3, 1, 999, 100)}
	wantFree(t, lanes, stays, 1, 1, 1, 0)
}

func TestTakingOff(t *testing.T) {
	lanes := []impl.Lane{lane(1000, 200), lane(1000, 300)}
	a, b, c := stay(5, 1, 300, 250), stay(2, 0, 200, 100), stay(9, 0, 100, 200)
	all := []impl.Stay{a, b, c}
	takeOff(t, lanes, all, 5, b, c)
	takeOff(t, lanes, all, 2, a, c)
	left := takeOff(t, lanes, all, 9, a, b)
	left = takeOff(t, lanes, left, 5, b)
	left = takeOff(t, lanes, left, 2)
	wantFree(t, lanes, left, 1000, 1000)
	if got, ok := impl.TakeOff(lanes, left, 2); ok || len(got) > 0 {
		t.Error(got, ok)
	}
}

func TestACarTakenOffMakesRoom(t *testing.T) {
	lanes := []impl.Lane{lane(500, 200), lane(500, 400)}
	stays := place(t, lanes, nil, stay(1, 0, 400, 150))
	stays = place(t, lanes, stays, stay(2, 1, 400, 150))
	refuse(t, lanes, stays, 3, 101, 150)
	stays = takeOff(t, lanes, stays, 1, stay(2, 1, 400, 150))
	refuse(t, lanes, stays, 3, 500, 201)
	stays = place(t, lanes, stays, stay(3, 0, 500, 200))
	stays = takeOff(t, lanes, stays, 2, stay(3, 0, 500, 200))
	place(t, lanes, stays, stay(2, 1, 500, 201))
}

// manyStays is as many stays, each with a length of 1, spread over the lanes.
func manyStays(many, lanes int) []impl.Stay {
	var stays []impl.Stay
	for i := range many {
		stays = append(stays, stay(i+1, i%lanes, 1, 1))
	}
	return stays
}

func TestMaxStaysAndOneMore(t *testing.T) {
	lanes := []impl.Lane{lane(30, 100), lane(5000, 100)}
	var stays []impl.Stay
	for i := range 60 {
		stays = place(t, lanes, stays, stay(100+i, i/30, 1, 100))
	}
	wantFree(t, lanes, stays, 0, 4970)
	refuse(t, lanes, stays, 99, 1, 1)
	if impl.GoodDeck(lanes, append(slices.Clone(stays), stay(99, 1, 1, 1))) {
		t.Error("one stay too many is good")
	}
	left := takeOff(t, lanes, stays, 100, stays[1:]...)
	left = place(t, lanes, left, stay(99, 0, 1, 1))
	refuse(t, lanes, left, 98, 1, 1)
	takeOff(t, lanes, left, 99, stays[1:]...)
	for many, ways := range map[int]bool{58: true, 59: true, 60: false, 61: false} {
		if _, _, ok := impl.PlaceCar(lanes, manyStays(many, 2), 99, 1, 1); ok != ways {
			t.Errorf("beside %d stays: %v", many, ok)
		}
	}
}

func checkDeck(t *testing.T, lanes []impl.Lane, stays []impl.Stay, by, length, height int) deckAnswers {
	t.Helper()
	got, want := askDeck(lanes, stays, by, length, height), deckByWords(lanes, stays, by, length, height)
	if !sameDeckAnswers(got, want) {
		t.Fatalf("%+v on %+v, by %d, length %d, height %d: got %+v, want %+v", stays, lanes, by, length, height, got, want)
	}
	return got
}

// All decks of at most two lanes and two stays out of these, good or not, and all cars out of these.
func TestSmallDecksAllOfThem(t *testing.T) {
	var kinds []impl.Stay
	for _, by := range []int{1, 2} {
		for at := -1; at <= 2; at++ {
			for length := range 3 {
				kinds = append(kinds, stay(by, at, length, 100), stay(by, at, length, 101))
			}
		}
	}
	good, placed, took := 0, 0, 0
	for _, lanes := range lists([]impl.Lane{lane(1, 101), lane(2, 100), lane(3, 101)}, 2) {
		for _, stays := range lists(kinds, 2) {
			for _, by := range []int{1, 2, 3} {
				for _, car := range []impl.Lane{lane(1, 100), lane(1, 101), lane(2, 100), lane(2, 101), lane(3, 101)} {
					r := checkDeck(t, lanes, stays, by, car.Length, car.Height)
					good, placed, took = good+count(r.Good), placed+count(r.Place), took+count(r.Took)
				}
			}
		}
	}
	if good == 0 || placed == 0 || took == 0 {
		t.Error(good, placed, took)
	}
}

func count(is bool) int {
	if is {
		return 1
	}
	return 0
}

func randomLanes(r *rand.Rand, longest int) []impl.Lane {
	var lanes []impl.Lane
	for range r.Intn(impl.MaxLanes + 1) {
		lanes = append(lanes, lane(1+r.Intn(longest), 100+r.Intn(401)))
	}
	return lanes
}

// Cars come and go; each answer is the deck of the next question.
func TestDeckHistories(t *testing.T) {
	r := rand.New(rand.NewSource(41))
	placed, refused, took, full := 0, 0, 0, 0
	for run := range 80 {
		lanes := randomLanes(r, 5000)
		longest := []int{20, 200, 1000, 2000}[run%4]
		var stays []impl.Stay
		for range 150 {
			got := checkDeck(t, lanes, stays, 1+r.Intn(90), 1+r.Intn(longest), 1+r.Intn(500))
			full += count(len(stays) == impl.MaxStays)
			switch {
			case got.Place:
				stays, placed = got.Placed, placed+1
			case got.Took && r.Intn(3) == 0:
				stays, took = got.Left, took+1
			default:
				refused++
			}
		}
	}
	if placed == 0 || refused == 0 || took == 0 || full == 0 {
		t.Error("some answer never came", placed, refused, took, full)
	}
}

// What the promise says, asked of the stays alone: no lane is too short or too low for them, and whoever was refused has no room.
func TestNoLaneIsOverfilled(t *testing.T) {
	r := rand.New(rand.NewSource(42))
	for range 2000 {
		lanes := randomLanes(r, 60)
		var stays []impl.Stay
		left := make([]int, len(lanes))
		for i, x := range lanes {
			left[i] = x.Length
		}
		for by := 1; by <= 20; by++ {
			length, height := 1+r.Intn(30), 1+r.Intn(500)
			want := -1
			for i := len(lanes) - 1; i >= 0; i-- {
				if lanes[i].Height >= height && left[i] >= length {
					want = i
				}
			}
			if want < 0 {
				refuse(t, lanes, stays, by, length, height)
				continue
			}
			stays = place(t, lanes, stays, stay(by, want, length, height))
			left[want] -= length
		}
		wantFree(t, lanes, stays, left...)
	}
}

// Decks out of numbers at and beside every bound, most of them not good.
func TestDecksAtEveryBoundAgainstTheWords(t *testing.T) {
	r := rand.New(rand.NewSource(43))
	good, placed := 0, 0
	pick := func(usual, odd []int) int {
		if r.Intn(25) == 0 {
			return odd[r.Intn(len(odd))]
		}
		return usual[r.Intn(len(usual))]
	}
	for range 60000 {
		lanes := make([]impl.Lane, pick([]int{1, 2, 3, 4}, []int{0, 5}))
		for i := range lanes {
			lanes[i] = lane(pick([]int{1, 1999, 2000, 2001, 4000, 5000}, []int{0, 5001, -1}), pick([]int{100, 101, 499, 500}, []int{99, 501}))
		}
		stays := make([]impl.Stay, r.Intn(4))
		for i := range stays {
			stays[i] = stay(pick([]int{1, 2, 3, 4, 9998, 9999}, []int{0, 10000}), pick([]int{0, 1}, []int{-1, 2, 3, 4}),
				pick([]int{1, 999, 1000, 1999, 2000}, []int{0, 2001}), pick([]int{1, 99, 100}, []int{0, 101, 499, 500, 501}))
		}
		by, length := pick([]int{5, 9997, 1, 9999}, []int{0, 10000}), pick([]int{1, 1000, 1999, 2000}, []int{0, 2001})
		got := checkDeck(t, lanes, stays, by, length, pick([]int{1, 100, 101, 499, 500}, []int{0, 501}))
		good, placed = good+count(got.Good), placed+count(got.Place)
	}
	if good < 1000 || placed < 500 {
		t.Error("too few are good", good, placed)
	}
}
