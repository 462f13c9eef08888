package tests

import (
	"math/rand"
	"slices"
	"testing"

	"loop.example/g00084/impl"
)

// moveIn places the room in its way, which must be possible in that cabin: people is who come, of a whole one.
func moveIn(t *testing.T, cabins []impl.Cabin, rooms []impl.Room, want impl.Room, class, people int) []impl.Room {
	t.Helper()
	way, asked := impl.PlaceBerths, want.Many
	if want.Whole {
		way, asked = impl.PlaceWhole, people
	}
	got, number, ok := way(cabins, rooms, want.By, class, asked)
	if !ok || number != want.Cabin || !slices.Equal(got, append(slices.Clone(rooms), want)) {
		t.Fatalf("placing %+v beside %+v: %+v, cabin %d, %v", want, rooms, got, number, ok)
	}
	if !impl.GoodRooms(cabins, got) {
		t.Fatalf("placing %+v: not good: %+v", want, got)
	}
	return got
}

func sellWhole(t *testing.T, cabins []impl.Cabin, rooms []impl.Room, by, class, people, cabin int) []impl.Room {
	t.Helper()
	return moveIn(t, cabins, rooms, allOf(by, cabin, cabins[cabin].Berths), class, people)
}

func sellBerths(t *testing.T, cabins []impl.Cabin, rooms []impl.Room, by, class, many, cabin int) []impl.Room {
	t.Helper()
	return moveIn(t, cabins, rooms, berths(by, cabin, many), class, 0)
}

func noWhole(t *testing.T, cabins []impl.Cabin, rooms []impl.Room, by, class, people int) {
	t.Helper()
	if got, number, ok := impl.PlaceWhole(cabins, rooms, by, class, people); ok || number != 0 || len(got) > 0 {
		t.Errorf("by %d, class %d, %d people: %+v, cabin %d, %v", by, class, people, got, number, ok)
	}
}

func noBerths(t *testing.T, cabins []impl.Cabin, rooms []impl.Room, by, class, many int) {
	t.Helper()
	if got, number, ok := impl.PlaceBerths(cabins, rooms, by, class, many); ok || number != 0 || len(got) > 0 {
		t.Errorf("by %d, class %d, %d berths: %+v, cabin %d, %v", by, class, many, got, number, ok)
	}
}

func wantBerths(t *testing.T, cabins []impl.Cabin, rooms []impl.Room, want ...int) {
	t.Helper()
	if got, ok := impl.FreeBerths(cabins, rooms); !ok || !slices.Equal(got, want) {
		t.Errorf("%+v in %+v: free are %v, %v, want %v", rooms, cabins, got, ok, want)
	}
}

func sit(t *testing.T, most int, seats []impl.Seat, by, many int) []impl.Seat {
	t.Helper()
	got, ok := impl.TakeSeats(most, seats, by, many)
	if !ok || !slices.Equal(got, append(slices.Clone(seats), seat(by, many))) || !impl.GoodSeats(most, got) {
		t.Fatalf("%d seats by %d beside %+v, at most %d: %+v, %v", many, by, seats, most, got, ok)
	}
	return got
}

func noSeats(t *testing.T, most int, seats []impl.Seat, by, many int) {
	t.Helper()
	if got, ok := impl.TakeSeats(most, seats, by, many); ok || len(got) > 0 {
		t.Errorf("%d seats by %d beside %+v, at most %d: %+v, %v", many, by, seats, most, got, ok)
	}
}

func TestCabinConstants(t *testing.T) {
	if impl.MaxRooms != 60 {
		t.Error(impl.MaxRooms)
	}
}

func TestAWholeCabinWhereNobodyHasABerth(t *testing.T) {
	cabins := []impl.Cabin{cabin(1, 4), cabin(1, 4), cabin(1, 4)}
	rooms := sellWhole(t, cabins, nil, 7, 1, 2, 0)
	rooms = sellWhole(t, cabins, rooms, 3, 1, 4, 1)
	wantBerths(t, cabins, rooms, 0, 0, 4)
	sellWhole(t, cabins, rooms, 1, 1, 1, 2)
}

func TestNoWholeCabinWhereSomebodyHasABerth(t *testing.T) {
	cabins := []impl.Cabin{cabin(1, 4), cabin(1, 3)}
	rooms := sellBerths(t, cabins, nil, 1, 1, 1, 0)
	sellWhole(t, cabins, rooms, 2, 1, 3, 1)
	sellWhole(t, cabins, rooms, 2, 1, 1, 1)
	noWhole(t, cabins, rooms, 2, 1, 4)
	both := []impl.Room{berths(1, 0, 1), berths(2, 1, 3)}
	for people := 1; people <= 20; people++ {
		noWhole(t, cabins, both, 3, 1, people)
	}
}

func TestAPartyInTheFirstCabinOfItsClass(t *testing.T) {
	cabins := []impl.Cabin{cabin(2, 4), cabin(1, 2), cabin(1, 2), cabin(3, 1)}
	sellWhole(t, cabins, nil, 1, 1, 1, 1)
	sellWhole(t, cabins, nil, 1, 1, 2, 1)
	sellWhole(t, cabins, nil, 1, 2, 4, 0)
	sellWhole(t, cabins, nil, 1, 3, 1, 3)
}

func TestAPartyInALaterCabinOnly(t *testing.T) {
	cabins := []impl.Cabin{cabin(1, 2), cabin(2, 4), cabin(1, 3), cabin(1, 4)}
	rooms := sellWhole(t, cabins, nil, 1, 1, 3, 2)
	rooms = sellWhole(t, cabins, rooms, 2, 1, 3, 3)
	noWhole(t, cabins, rooms, 3, 1, 3) // the free one has no berth for each, and there are cabins with as many
	rooms = sellWhole(t, cabins, rooms, 3, 1, 2, 0)
	wantBerths(t, cabins, rooms, 0, 4, 0, 0)
}

func TestAPartyInNoCabin(t *testing.T) {
	cabins := []impl.Cabin{cabin(1, 2), cabin(2, 4)}
	noWhole(t, nil, nil, 1, 1, 1)
	noWhole(t, cabins, nil, 1, 3, 1)
	noWhole(t, cabins, nil, 1, 3, 20)
	rooms := sellWhole(t, cabins, nil, 1, 1, 2, 0)
	for people := 1; people <= 20; people++ {
		noWhole(t, cabins, rooms, 2, 1, people)
	}
}

func TestMorePeopleThanAnyCabinHasBerths(t *testing.T) {
	cabins := []impl.Cabin{cabin(2, 4), cabin(1, 1), cabin(1, 3), cabin(1, 2)}
	for _, people := range []int{4, 5, 20} {
		rooms := sellWhole(t, cabins, nil, 1, 1, people, 1)
		rooms = sellWhole(t, cabins, rooms, 2, 1, people, 2)
		rooms = sellWhole(t, cabins, rooms, 3, 1, people, 3)
		noWhole(t, cabins, rooms, 4, 1, people)
	}
	taken := []impl.Room{berths(1, 1, 1), berths(2, 2, 1)}
	sellWhole(t, cabins, taken, 3, 1, 4, 3)
	noWhole(t, cabins, taken, 3, 1, 3) // cabin 2 has so many, though it is not free
}

func TestBerthsInTheFirstCabinOfTheClass(t *testing.T) {
	cabins := []impl.Cabin{cabin(3, 4), cabin(1, 4), cabin(1, 4)}
	rooms := sellBerths(t, cabins, nil, 1, 1, 1, 1)
	rooms = sellBerths(t, cabins, rooms, 2, 1, 2, 1)
	rooms = sellBerths(t, cabins, rooms, 3, 3, 4, 0)
	rooms = sellBerths(t, cabins, rooms, 4, 1, 1, 1)
	wantBerths(t, cabins, rooms, 0, 0, 4)
}

func TestBerthsInALaterCabinOnly(t *testing.T) {
	cabins := []impl.Cabin{cabin(1, 1), cabin(2, 4), cabin(1, 3), cabin(1, 4)}
	rooms := sellBerths(t, cabins, nil, 1, 1, 2, 2)
	rooms = sellBerths(t, cabins, rooms, 2, 1, 2, 3)
	rooms = sellBerths(t, cabins, rooms, 3, 1, 2, 3)
	rooms = sellBerths(t, cabins, rooms, 4, 1, 1, 0)
	rooms = sellBerths(t, cabins, rooms, 5, 1, 1, 2)
	wantBerths(t, cabins, rooms, 0, 4, 0, 0)
}

func TestBerthsInNoCabin(t *testing.T) {
	cabins := []impl.Cabin{cabin(1, 3), cabin(2, 4), cabin(1, 3)}
	noBerths(t, nil, nil, 1, 1, 1)
	noBerths(t, cabins, nil, 1, 3, 1)
	noBerths(t, cabins, nil, 1, 1, 4)
	rooms := []impl.Room{berths(1, 0, 2), berths(2, 2, 2)}
	noBerths(t, cabins, rooms, 3, 1, 2) // one berth here and one there are no two
	sellBerths(t, cabins, rooms, 3, 1, 1, 0)
}

func TestACabinFilledExactly(t *testing.T) {
	for many := 1; many <= 4; many++ {
		cabins := []impl.Cabin{cabin(2, many)}
		noBerths(t, cabins, nil, 1, 2, many+1)
		wantBerths(t, cabins, sellBerths(t, cabins, nil, 1, 2, many, 0), 0)
		var rooms []impl.Room
		for by := 1; by <= many; by++ {
			rooms = sellBerths(t, cabins, rooms, by, 2, 1, 0)
		}
		wantBerths(t, cabins, rooms, 0)
		noBerths(t, cabins, rooms, 9, 2, 1)
		noWhole(t, cabins, rooms, 9, 2, 1)
		if impl.GoodRooms(cabins, append(slices.Clone(rooms), berths(9, 0, 1))) {
			t.Error("passed by one, and good:", many)
		}
	}
}

func TestACabinSoldWholeHasNoBerthLeft(t *testing.T) {
	cabins := []impl.Cabin{cabin(1, 4), cabin(1, 2)}
	rooms := sellWhole(t, cabins, nil, 1, 1, 1, 0)
	wantBerths(t, cabins, rooms, 0, 2)
	rooms = sellBerths(t, cabins, rooms, 2, 1, 1, 1)
	noBerths(t, cabins, rooms, 3, 1, 2)
	noWhole(t, cabins, rooms, 3, 1, 1)
	rooms = sellBerths(t, cabins, rooms, 3, 1, 1, 1)
	noBerths(t, cabins, rooms, 4, 1, 1)
}

func TestTheRoomIsBehindTheOthers(t *testing.T) {
	cabins := []impl.Cabin{cabin(1, 4), cabin(2, 3), cabin(3, 2), cabin(1, 1), cabin(2, 2), cabin(3, 4)}
	rooms := []impl.Room{berths(9, 4, 1), allOf(2, 0, 4), berths(5, 1, 3)}
	rooms = sellBerths(t, cabins, rooms, 1, 2, 1, 4)
	rooms = sellWhole(t, cabins, rooms, 9999, 3, 3, 5)
	rooms = sellWhole(t, cabins, rooms, 4, 3, 2, 2)
	rooms = sellBerths(t, cabins, rooms, 3, 1, 1, 3)
	wantBerths(t, cabins, rooms, 0, 0, 0, 0, 0, 0)
}

func TestFreeBerthsOfEveryCabin(t *testing.T) {
	wantBerths(t, nil, nil)
	cabins := []impl.Cabin{cabin(1, 4), cabin(2, 3), cabin(3, 2), cabin(1, 1), cabin(2, 4), cabin(3, 4)}
	wantBerths(t, cabins, nil, 4, 3, 2, 1, 4, 4)
	rooms := []impl.Room{berths(8, 5, 2), berths(1, 0, 1), allOf(2, 2, 2), berths(3, 5, 1), berths(4, 1, 3), allOf(9, 4, 4)}
	wantBerths(t, cabins, rooms, 3, 0, 0, 1, 0, 1)
}

// manyRooms is as many rooms, each of one berth, spread over the cabins.
func manyRooms(many, cabins int) []impl.Room {
	var rooms []impl.Room
	for i := range many {
		rooms = append(rooms, berths(i+1, i%cabins, 1))
	}
	return rooms
}

// A sailing has 24 berths at most, so no list of MaxRooms rooms is good, and none is refused for its length alone.
func TestMaxRoomsAndOneMore(t *testing.T) {
	cabins := slices.Repeat([]impl.Cabin{cabin(1, 4)}, 6)
	var rooms []impl.Room
	for i := range 24 {
		rooms = sellBerths(t, cabins, rooms, 100+i, 1, 1, i/4)
	}
	wantBerths(t, cabins, rooms, 0, 0, 0, 0, 0, 0)
	noBerths(t, cabins, rooms, 99, 1, 1)
	for _, many := range []int{25, 59, 60, 61} {
		if got := askRooms(cabins, manyRooms(many, 6), 99, 1, 1, 1); !sameRoomAnswers(got, roomAnswers{}) {
			t.Errorf("%d rooms: %+v", many, got)
		}
	}
}

func TestSeatsUpToMost(t *testing.T) {
	seats := sit(t, 25, nil, 5, 20)
	noSeats(t, 25, seats, 2, 6)
	seats = sit(t, 25, seats, 2, 5)
	noSeats(t, 25, seats, 9, 1)
	seats = sit(t, 26, seats, 9, 1)
	if impl.GoodSeats(25, seats) || !impl.GoodSeats(26, seats) || !impl.GoodSeats(27, seats) {
		t.Error("as many as there may be are good, one more is not")
	}
}

func TestSeatsOfAnEmptyAndAFullShip(t *testing.T) {
	noSeats(t, 0, nil, 1, 1)
	if !impl.GoodSeats(0, nil) || !impl.GoodSeats(500, nil) {
		t.Error("nobody is good")
	}
	sit(t, 1, nil, 1, 1)
	noSeats(t, 1, nil, 1, 2)
	var seats []impl.Seat
	for by := 1; by <= 25; by++ {
		seats = sit(t, 500, seats, by, 20)
	}
	noSeats(t, 500, seats, 26, 1)
}

// manySeats is as many seats, each of one.
func manySeats(many int) []impl.Seat {
	var seats []impl.Seat
	for i := range many {
		seats = append(seats, seat(i+1, 1))
	}
	return seats
}

func TestMaxRoomsSeatsAndOneMore(t *testing.T) {
	var seats []impl.Seat
	for i := range 60 {
		seats = sit(t, 500, seats, 9999-i, 1+i%8)
	}
	noSeats(t, 500, seats, 1, 1)
	if impl.GoodSeats(500, append(slices.Clone(seats), seat(1, 1))) {
		t.Error("one seat too many is good")
	}
	sit(t, 500, seats[1:], 1, 1)
	for many, ways := range map[int]bool{58: true, 59: true, 60: false, 61: false} {
		if _, ok := impl.TakeSeats(500, manySeats(many), 99, 1); ok != ways {
			t.Errorf("beside %d seats: %v", many, ok)
		}
	}
}

func checkRooms(t *testing.T, cabins []impl.Cabin, rooms []impl.Room, by, class, people, many int) roomAnswers {
	t.Helper()
	got, want := askRooms(cabins, rooms, by, class, people, many), roomsByWords(cabins, rooms, by, class, people, many)
	if !sameRoomAnswers(got, want) {
		t.Fatalf("%+v in %+v, by %d, class %d, %d people, %d berths: got %+v, want %+v", rooms, cabins, by, class, people, many, got, want)
	}
	return got
}

func checkSeats(t *testing.T, most int, seats []impl.Seat, by, many int) seatAnswers {
	t.Helper()
	got, want := askSeats(most, seats, by, many), seatsByWords(most, seats, by, many)
	if !sameSeatAnswers(got, want) {
		t.Fatalf("%+v of %d, by %d, %d people: got %+v, want %+v", seats, most, by, many, got, want)
	}
	return got
}

// All rooms of at most two in all cabins of at most two out of these, good or not.
func TestSmallRoomsAllOfThem(t *testing.T) {
	var kinds []impl.Room
	for _, by := range []int{1, 2} {
		for at := -1; at <= 2; at++ {
			for many := range 4 {
				kinds = append(kinds, berths(by, at, many), allOf(by, at, many))
			}
		}
	}
	good, wholes, some := 0, 0, 0
	for _, cabins := range lists([]impl.Cabin{cabin(1, 1), cabin(1, 2), cabin(2, 2), cabin(1, 3)}, 2) {
		for _, rooms := range lists(kinds, 2) {
			for _, by := range []int{1, 3} {
				for people := 1; people <= 4; people++ {
					r := checkRooms(t, cabins, rooms, by, 1, people, people)
					good, wholes, some = good+count(r.Good), wholes+count(r.WholeOk), some+count(r.BerthsOk)
				}
			}
		}
	}
	if good == 0 || wholes == 0 || some == 0 {
		t.Error(good, wholes, some)
	}
}

// All cabins of at most three of one class and another, each free, with a berth sold, or sold whole, and all parties.
func TestSmallShipsAllOfThem(t *testing.T) {
	kinds := []impl.Cabin{cabin(1, 1), cabin(1, 2), cabin(1, 4), cabin(2, 3)}
	for _, cabins := range lists(kinds, 3) {
		for state := range 27 {
			var rooms []impl.Room
			for i, c := range cabins {
				switch state / []int{1, 3, 9}[i] % 3 {
				case 1:
					rooms = append(rooms, berths(10+i, i, 1))
				case 2:
					rooms = append(rooms, allOf(10+i, i, c.Berths))
				}
			}
			for people := range 7 {
				for class := range 4 {
					checkRooms(t, cabins, rooms, 1, class, people, people)
				}
			}
		}
	}
}

func randomCabins(r *rand.Rand) []impl.Cabin {
	var cabins []impl.Cabin
	for range r.Intn(impl.MaxCabins + 1) {
		cabins = append(cabins, cabin(1+r.Intn(3), 1+r.Intn(4)))
	}
	return cabins
}

// Parties come and go; each answer is the rooms of the next question.
func TestRoomHistories(t *testing.T) {
	r := rand.New(rand.NewSource(51))
	wholes, some, refused := 0, 0, 0
	for range 400 {
		cabins := randomCabins(r)
		var rooms []impl.Room
		for range 60 {
			got := checkRooms(t, cabins, rooms, 1+r.Intn(40), 1+r.Intn(3), 1+r.Intn(6), 1+r.Intn(4))
			switch {
			case got.WholeOk && r.Intn(3) == 0:
				rooms, wholes = got.Whole, wholes+1
			case got.BerthsOk:
				rooms, some = got.Berths, some+1
			case len(rooms) > 0 && r.Intn(2) == 0:
				rooms = slices.Delete(slices.Clone(rooms), 0, 1)
			default:
				refused++
			}
		}
	}
	if wholes == 0 || some == 0 || refused == 0 {
		t.Error("some answer never came", wholes, some, refused)
	}
}

// What the promise says, berth by berth: each has one owner at most, and a whole cabin's owner has all of them.
func TestNoBerthIsSoldTwice(t *testing.T) {
	r := rand.New(rand.NewSource(52))
	for range 2000 {
		cabins := randomCabins(r)
		owners := make([][]int, len(cabins))
		for i, c := range cabins {
			owners[i] = make([]int, c.Berths)
		}
		var rooms []impl.Room
		for by := 1; by <= 30; by++ {
			way := impl.PlaceBerths
			if r.Intn(3) == 0 {
				way = impl.PlaceWhole
			}
			more, number, ok := way(cabins, rooms, by, 1+r.Intn(3), 1+r.Intn(4))
			if !ok {
				continue
			}
			rooms = more
			settle(t, owners[number], rooms[len(rooms)-1])
		}
	}
}

// settle gives the room its berths among the owners of its cabin; 0 is nobody.
func settle(t *testing.T, owners []int, room impl.Room) {
	t.Helper()
	if room.Whole && (room.Many != len(owners) || slices.Max(owners) > 0) {
		t.Fatalf("whole, where %v have berths: %+v", owners, room)
	}
	for range room.Many {
		at := slices.Index(owners, 0)
		if at < 0 {
			t.Fatalf("no berth is left among %v: %+v", owners, room)
		}
		owners[at] = room.By
	}
}

// Cabins and rooms out of numbers at and beside every bound, many of them not good.
func TestRoomsAtEveryBoundAgainstTheWords(t *testing.T) {
	r := rand.New(rand.NewSource(53))
	pick := func(usual, odd []int) int {
		if r.Intn(40) == 0 {
			return odd[r.Intn(len(odd))]
		}
		return usual[r.Intn(len(usual))]
	}
	good, wholes, some := 0, 0, 0
	for range 60000 {
		cabins := make([]impl.Cabin, pick([]int{2, 3, 5, 6}, []int{0, 1, 7}))
		for i := range cabins {
			cabins[i] = cabin(pick([]int{1, 2, 3, 3}, []int{0, 4, -1}), pick([]int{1, 2, 4, 4}, []int{0, 5, 3}))
		}
		rooms := make([]impl.Room, r.Intn(4))
		for i := range rooms {
			rooms[i] = berths(pick([]int{1, 2, 3, 4, 9998, 9999}, []int{0, 10000}), pick([]int{0, 1}, []int{-1, 2, 5, 6, 7}), pick([]int{1, 1, 2, 4}, []int{0, 5, 3, -1}))
			rooms[i].Whole = r.Intn(4) == 0
		}
		by, class := pick([]int{5, 9997, 1, 9999}, []int{0, 10000}), pick([]int{1, 2, 3}, []int{0, 4})
		got := checkRooms(t, cabins, rooms, by, class, pick([]int{1, 2, 4, 5, 20}, []int{0, 21, -1}), pick([]int{1, 2, 4}, []int{0, 5, -1}))
		good, wholes, some = good+count(got.Good), wholes+count(got.WholeOk), some+count(got.BerthsOk)
	}
	if good < 5000 || wholes < 1000 || some < 1000 {
		t.Error("too few are good", good, wholes, some)
	}
}

// All seats of at most three out of these, good or not.
func TestSmallSeatsAllOfThem(t *testing.T) {
	var kinds []impl.Seat
	for _, many := range []int{-1, 0, 1, 2, 19, 20, 21} {
		kinds = append(kinds, seat(1, many), seat(2, many), seat(0, many))
	}
	good, took := 0, 0
	for _, seats := range lists(kinds, 3) {
		for _, most := range []int{-1, 0, 1, 2, 21, 40, 41, 500, 501} {
			for _, many := range []int{0, 1, 2, 20, 21} {
				got := checkSeats(t, most, seats, 3, many)
				good, took = good+count(got.Good), took+count(got.Took)
			}
			checkSeats(t, most, seats, 1, 1)
		}
	}
	if good == 0 || took == 0 {
		t.Error(good, took)
	}
}

// People come and go; each answer is the seats of the next question.
func TestSeatHistories(t *testing.T) {
	r := rand.New(rand.NewSource(54))
	took, refused, full := 0, 0, 0
	for run := range 100 {
		most, greatest := r.Intn(501), []int{3, 8, 20}[run%3]
		var seats []impl.Seat
		for range 150 {
			got := checkSeats(t, most, seats, 1+r.Intn(200), 1+r.Intn(greatest))
			full += count(len(seats) == impl.MaxRooms)
			switch {
			case got.Took:
				seats, took = got.Taken, took+1
			case len(seats) > 0 && r.Intn(3) == 0:
				at := r.Intn(len(seats))
				seats = slices.Delete(slices.Clone(seats), at, at+1)
			default:
				refused++
			}
		}
	}
	if took == 0 || refused == 0 || full == 0 {
		t.Error("some answer never came", took, refused, full)
	}
}
