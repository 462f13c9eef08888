package tests

import (
	"math"
	"slices"
	"testing"

	"loop.example/g00084/impl"
)

// shipCabins and shipRooms are good, with room for more of each class.
func shipCabins() []impl.Cabin {
	return []impl.Cabin{cabin(1, 4), cabin(2, 4), cabin(3, 2), cabin(1, 3), cabin(3, 4)}
}

func shipRooms() []impl.Room {
	return []impl.Room{berths(5, 0, 2), berths(9999, 1, 1), berths(1, 0, 1), allOf(7, 2, 2)}
}

// wantZeroRooms asks all functions about rooms that are not good.
func wantZeroRooms(t *testing.T, what string, cabins []impl.Cabin, rooms []impl.Room) {
	t.Helper()
	if goodRoomsByWords(cabins, rooms) {
		t.Error("good by the words:", what)
	}
	bys := []int{3, 5, 7}
	if len(rooms) > 0 {
		bys = append(bys, rooms[0].By, rooms[len(rooms)-1].By)
	}
	for _, by := range bys {
		for class := 1; class <= 3; class++ {
			if r := askRooms(cabins, rooms, by, class, 1, 1); !sameRoomAnswers(r, roomAnswers{}) {
				t.Errorf("%s, by %d, class %d: %+v", what, by, class, r)
			}
		}
	}
}

func TestRoomsInCabinsThatAreNotGood(t *testing.T) {
	if !impl.GoodRooms(shipCabins(), shipRooms()) {
		t.Fatal("these are good")
	}
	for what, wrong := range cabinsThatAreNotGood() {
		for at := range 5 {
			cabins := shipCabins()
			cabins[at] = wrong
			wantZeroRooms(t, "a cabin with "+what, cabins, nil)
			wantZeroRooms(t, "a cabin with "+what+" and rooms", cabins, shipRooms())
			wantZeroRooms(t, "a cabin with "+what+" and a room elsewhere", cabins, []impl.Room{berths(5, (at+1)%5, 1)})
			wantZeroRooms(t, "a cabin with "+what+" that is sold whole", cabins, []impl.Room{allOf(5, at, wrong.Berths)})
		}
	}
	for _, many := range []int{7, 8, 100000} {
		cabins := slices.Repeat([]impl.Cabin{cabin(1, 4)}, many)
		wantZeroRooms(t, "too many cabins", cabins, nil)
		wantZeroRooms(t, "too many cabins and a room", cabins, []impl.Room{berths(5, 0, 1)})
		wantZeroRooms(t, "too many cabins and a room in the last", cabins, []impl.Room{berths(5, 6, 1)})
		wantZeroRooms(t, "too many cabins and a whole one", cabins, []impl.Room{allOf(5, 6, 4)})
	}
}

func TestRoomsWithOneThatIsNotGood(t *testing.T) {
	changes := map[string][]impl.Room{
		"nothing set":             {{}, {Whole: true}},
		"By":                      {berths(0, 3, 1), berths(10000, 3, 1), allOf(0, 3, 3), allOf(10000, 3, 3)},
		"Cabin":                   {berths(3, -1, 1), berths(3, 5, 1), berths(3, 6, 1), allOf(3, -1, 4), allOf(3, 5, 4)},
		"Many":                    {berths(3, 3, 0), berths(3, 4, 5), allOf(3, 4, 0), allOf(3, 4, 5)},
		"whole with fewer":        {allOf(3, 3, 2), allOf(3, 3, 1), allOf(3, 4, 3)},
		"whole with more":         {allOf(3, 3, 4), allOf(3, 2, 3), allOf(3, 2, 4)},
		"more than its berths":    {berths(3, 3, 4), berths(3, 2, 3), berths(3, 2, 4)},
		"more than its free ones": {berths(3, 0, 2), berths(3, 0, 4)},
		"whole beside others":     {allOf(3, 0, 4), allOf(3, 0, 1)},
	}
	for _, n := range numbersFarOut() {
		changes["far out"] = append(changes["far out"], berths(n, 3, 1), berths(3, n, 1), berths(3, 3, n), berths(n, n, n), allOf(n, 3, 3), allOf(3, n, 3), allOf(3, 3, n), allOf(n, n, n))
	}
	others := []impl.Room{berths(5, 0, 2), berths(6, 0, 1), berths(9999, 1, 4)}
	for what, wrongs := range changes {
		for _, wrong := range wrongs {
			for at := range len(others) + 1 {
				wantZeroRooms(t, what, shipCabins(), slices.Insert(slices.Clone(others), at, wrong))
			}
			if !goodRoomsByWords(shipCabins(), []impl.Room{wrong}) {
				wantZeroRooms(t, what+", alone", shipCabins(), []impl.Room{wrong})
			}
			wantZeroRooms(t, what+", without cabins", nil, []impl.Room{wrong})
		}
	}
}

func TestRoomsWithAByTwice(t *testing.T) {
	cabins := shipCabins()
	cases := map[string][]impl.Room{
		"two all alike":     {berths(5, 0, 1), berths(5, 0, 1)},
		"in two cabins":     {berths(5, 0, 1), berths(5, 1, 2)},
		"two whole ones":    {allOf(5, 0, 4), allOf(5, 1, 4)},
		"whole and berths":  {allOf(5, 0, 4), berths(5, 1, 1)},
		"berths and whole":  {berths(5, 1, 1), allOf(5, 0, 4)},
		"not neighbours":    {berths(5, 0, 1), berths(6, 0, 1), allOf(7, 4, 4), berths(5, 3, 1)},
		"the last two":      {berths(1, 0, 1), berths(9999, 0, 1), berths(9999, 0, 1)},
		"three of one":      {berths(1, 0, 1), berths(1, 1, 1), berths(1, 3, 1)},
		"in another's room": {berths(2, 0, 1), berths(1, 0, 1), berths(2, 0, 1)},
	}
	for what, rooms := range cases {
		wantZeroRooms(t, what, cabins, rooms)
	}
	for i := range 23 {
		rooms := manyRooms(24, 6)
		rooms[23].By = rooms[i].By
		wantZeroRooms(t, "the last of 24 is one of them", slices.Repeat([]impl.Cabin{cabin(1, 4)}, 6), rooms)
	}
}

func TestCabinsSoldTwice(t *testing.T) {
	cabins := []impl.Cabin{cabin(1, 4), cabin(2, 1), cabin(3, 2)}
	cases := map[string][]impl.Room{
		"whole twice":               {allOf(5, 0, 4), allOf(6, 0, 4)},
		"the least cabin twice":     {allOf(5, 1, 1), allOf(6, 1, 1)},
		"whole, then a berth":       {allOf(5, 0, 4), berths(6, 0, 1)},
		"a berth, then whole":       {berths(5, 0, 1), allOf(6, 0, 4)},
		"the rest as a whole":       {berths(5, 0, 1), allOf(6, 0, 3)},
		"whole by two of half each": {allOf(5, 2, 1), allOf(6, 2, 1)},
		"full, then whole":          {berths(5, 2, 2), allOf(6, 2, 2)},
		"whole, not neighbours":     {allOf(5, 2, 2), berths(6, 0, 1), allOf(7, 2, 2)},
		"a berth beside others":     {allOf(5, 2, 2), berths(6, 0, 1), berths(7, 2, 1)},
		"filled beyond by one":      {berths(5, 0, 2), berths(6, 0, 3)},
		"filled beyond by the last": {berths(5, 0, 1), berths(6, 0, 1), berths(7, 0, 1), berths(8, 0, 1), berths(9, 0, 1)},
		"the least cabin filled":    {berths(5, 1, 1), berths(6, 1, 1)},
		"the last cabin beyond":     {berths(5, 2, 1), berths(6, 0, 4), berths(7, 2, 2)},
		"sums that pass an int":     {berths(5, 0, math.MaxInt), berths(6, 0, math.MaxInt), berths(7, 0, 3)},
		"sums that come round":      {berths(5, 0, math.MinInt), berths(6, 0, math.MinInt)},
		"one takes it back":         {berths(5, 0, 4), berths(6, 0, 1), berths(7, 0, -1)},
		"one gives ahead":           {berths(7, 0, -4), berths(5, 0, 4), berths(6, 0, 4)},
		"a nought beside whole":     {allOf(5, 0, 4), berths(6, 0, 0)},
		"a nought ahead of whole":   {berths(6, 0, 0), allOf(5, 0, 4)},
	}
	for what, rooms := range cases {
		wantZeroRooms(t, what, cabins, rooms)
	}
}

func TestTooManyRooms(t *testing.T) {
	cabins := slices.Repeat([]impl.Cabin{cabin(1, 4)}, 6)
	for _, many := range []int{25, 60, 61, 62, 9999} {
		wantZeroRooms(t, "too many rooms", cabins, manyRooms(many, 6))
	}
	wantZeroRooms(t, "much too many", cabins, make([]impl.Room, 100000))
	wantZeroRooms(t, "a room without cabins", nil, []impl.Room{berths(5, 0, 1)})
	wantZeroRooms(t, "a whole one without cabins", nil, []impl.Room{allOf(5, 0, 4)})
	if !impl.GoodRooms(cabins, manyRooms(24, 6)) {
		t.Error("24 are not too many")
	}
}

func TestRoomsThatAreGoodAtTheEdge(t *testing.T) {
	cases := map[string]struct {
		cabins []impl.Cabin
		rooms  []impl.Room
	}{
		"nothing":             {nil, nil},
		"cabins alone":        {shipCabins(), nil},
		"six cabins":          {slices.Repeat([]impl.Cabin{cabin(3, 1)}, 6), []impl.Room{berths(1, 5, 1)}},
		"the greatest cabins": {slices.Repeat([]impl.Cabin{cabin(3, 4)}, 6), []impl.Room{allOf(9999, 5, 4)}},
		"the least of all":    {[]impl.Cabin{cabin(1, 1)}, []impl.Room{berths(1, 0, 1)}},
		"the least, whole":    {[]impl.Cabin{cabin(1, 1)}, []impl.Room{allOf(1, 0, 1)}},
		"four at once":        {[]impl.Cabin{cabin(1, 4)}, []impl.Room{berths(9999, 0, 4)}},
		"filled exactly":      {[]impl.Cabin{cabin(1, 4)}, []impl.Room{berths(1, 0, 3), berths(2, 0, 1)}},
		"all sold whole":      {shipCabins(), []impl.Room{allOf(1, 0, 4), allOf(2, 1, 4), allOf(3, 2, 2), allOf(4, 3, 3), allOf(5, 4, 4)}},
		"Bys in no order":     {[]impl.Cabin{cabin(1, 3)}, []impl.Room{berths(9, 0, 1), berths(2, 0, 1), berths(5, 0, 1)}},
		"a ship with it all":  {shipCabins(), shipRooms()},
	}
	for what, c := range cases {
		if !impl.GoodRooms(c.cabins, c.rooms) || !goodRoomsByWords(c.cabins, c.rooms) {
			t.Error(what)
		}
	}
}

func TestPlacesAskedForWrongly(t *testing.T) {
	cabins, rooms := slices.Repeat([]impl.Cabin{cabin(1, 4), cabin(2, 4), cabin(3, 4)}, 2), []impl.Room{berths(5, 0, 1), allOf(77, 1, 4)}
	far := numbersFarOut()
	for _, by := range append(slices.Clone(far), 0, 10000, 5, 77) {
		for class := 1; class <= 3; class++ {
			noWhole(t, cabins, rooms, by, class, 1)
			noBerths(t, cabins, rooms, by, class, 1)
		}
	}
	for _, class := range append(slices.Clone(far), 0, 4, 5) {
		for _, people := range []int{1, 4, 5, 20} {
			noWhole(t, cabins, rooms, 1, class, people)
			noBerths(t, cabins, rooms, 1, class, people)
			noBerths(t, cabins, nil, 1, class, people)
		}
	}
	for _, n := range append(slices.Clone(far), 0, 21, 22, 100) {
		noWhole(t, cabins, rooms, 1, 3, n)
		noWhole(t, cabins, nil, 1, 1, n)
	}
	for _, n := range append(slices.Clone(far), 0, 5, 6, 20) {
		noBerths(t, cabins, rooms, 1, 3, n)
		noBerths(t, cabins, nil, 1, 1, n)
	}
	for _, n := range far {
		noWhole(t, cabins, rooms, n, n, n)
		noBerths(t, cabins, rooms, n, n, n)
	}
	for _, by := range []int{1, 4, 6, 76, 78, 9999} {
		sellWhole(t, cabins, rooms, by, 3, 1, 2)
		sellWhole(t, cabins, rooms, by, 3, 20, 2)
		sellBerths(t, cabins, rooms, by, 1, 1, 0)
		sellBerths(t, cabins, rooms, by, 1, 4, 3)
	}
}

// wantZeroSeats asks both functions about seats that are not good.
func wantZeroSeats(t *testing.T, what string, most int, seats []impl.Seat) {
	t.Helper()
	if goodSeatsByWords(most, seats) {
		t.Error("good by the words:", what)
	}
	for _, by := range []int{3, 5, 9999} {
		if r := askSeats(most, seats, by, 1); !sameSeatAnswers(r, seatAnswers{}) {
			t.Errorf("%s, by %d: %+v", what, by, r)
		}
	}
}

func TestSeatsThatAreNotGood(t *testing.T) {
	cases := map[string][]impl.Seat{
		"nothing set":           {{}},
		"By 0":                  {seat(0, 1)},
		"By 10000":              {seat(10000, 1)},
		"Many 0":                {seat(1, 0)},
		"Many 21":               {seat(1, 21)},
		"two all alike":         {seat(5, 1), seat(5, 1)},
		"one By twice":          {seat(5, 1), seat(6, 2), seat(5, 3)},
		"too many":              manySeats(61),
		"much too many":         make([]impl.Seat, 100000),
		"sums that pass an int": {seat(1, math.MaxInt), seat(2, math.MaxInt), seat(6, 3)},
		"sums that come round":  {seat(1, math.MinInt), seat(2, math.MinInt)},
		"one takes it back":     {seat(1, 20), seat(2, -19)},
		"one gives ahead":       {seat(2, -19), seat(1, 20)},
	}
	for what, seats := range cases {
		for _, most := range []int{0, 20, 500} {
			wantZeroSeats(t, what, most, seats)
			wantZeroSeats(t, what+", behind another", most, slices.Concat([]impl.Seat{seat(8, 1)}, seats))
			wantZeroSeats(t, what+", ahead of another", most, slices.Concat(seats, []impl.Seat{seat(8, 1)}))
		}
	}
	for _, n := range numbersFarOut() {
		for _, s := range []impl.Seat{seat(n, 1), seat(1, n), seat(n, n)} {
			wantZeroSeats(t, "far out", 500, []impl.Seat{s})
			wantZeroSeats(t, "far out, behind", 500, []impl.Seat{seat(8, 1), s})
			wantZeroSeats(t, "far out, ahead", 500, []impl.Seat{s, seat(8, 1)})
		}
	}
}

func TestSeatsBeyondMost(t *testing.T) {
	wantZeroSeats(t, "one of none", 0, []impl.Seat{seat(1, 1)})
	wantZeroSeats(t, "two of one", 1, []impl.Seat{seat(1, 2)})
	wantZeroSeats(t, "the second", 9, []impl.Seat{seat(1, 5), seat(2, 5)})
	wantZeroSeats(t, "the last of 60", 59, manySeats(60))
	var full []impl.Seat
	for by := 1; by <= 25; by++ {
		full = append(full, seat(by, 20))
	}
	if !impl.GoodSeats(500, full) || !impl.GoodSeats(60, manySeats(60)) {
		t.Error("as many as there may be are good")
	}
	wantZeroSeats(t, "499 of 500", 499, full)
	wantZeroSeats(t, "the last passes 500", 500, append(full, seat(26, 1)))
}

func TestMostOutOfItsBounds(t *testing.T) {
	for _, most := range append(numbersFarOut(), 501, 502, 1000) {
		wantZeroSeats(t, "most", most, nil)
		wantZeroSeats(t, "most, with seats", most, []impl.Seat{seat(1, 1)})
	}
	sit(t, 500, nil, 1, 1)
	sit(t, 1, nil, 1, 1)
}

func TestSeatsAskedForWrongly(t *testing.T) {
	seats := []impl.Seat{seat(5, 1), seat(77, 20)}
	far := numbersFarOut()
	for _, by := range append(slices.Clone(far), 0, 10000, 5, 77) {
		noSeats(t, 500, seats, by, 1)
		noSeats(t, 500, seats, by, 20)
	}
	for _, many := range append(slices.Clone(far), 0, 21, 22, 100, 500) {
		noSeats(t, 500, seats, 1, many)
		noSeats(t, 500, nil, 1, many)
	}
	for _, n := range far {
		noSeats(t, 500, seats, n, n)
		noSeats(t, n, seats, n, n)
	}
	for _, by := range []int{1, 4, 6, 76, 78, 9999} {
		sit(t, 500, seats, by, 1)
		sit(t, 500, seats, by, 20)
	}
}

func cabinsWithRoom(cabins []impl.Cabin, behind ...impl.Cabin) []impl.Cabin {
	return append(slices.Clone(cabins), behind...)[:len(cabins)]
}

func roomsWithRoom(rooms []impl.Room, behind ...impl.Room) []impl.Room {
	return append(slices.Clone(rooms), behind...)[:len(rooms)]
}

func seatsWithRoom(seats []impl.Seat, behind ...impl.Seat) []impl.Seat {
	return append(slices.Clone(seats), behind...)[:len(seats)]
}

func scribbleCabins(l []impl.Cabin) {
	l = l[:cap(l)]
	for i := range l {
		l[i] = cabin(-7, -7)
	}
}

func scribbleRooms(l []impl.Room) {
	l = l[:cap(l)]
	for i := range l {
		l[i] = allOf(-7, -7, -7)
	}
}

func scribbleSeats(l []impl.Seat) {
	l = l[:cap(l)]
	for i := range l {
		l[i] = seat(-7, -7)
	}
}

func scribbleRoomAnswers(r roomAnswers) {
	scribbleNumbers(r.Free)
	scribbleRooms(r.Whole)
	scribbleRooms(r.Berths)
}

func copyRoomAnswers(r roomAnswers) roomAnswers {
	r.Free, r.Whole, r.Berths = slices.Clone(r.Free), slices.Clone(r.Whole), slices.Clone(r.Berths)
	return r
}

// eachShipForMemory goes over cabins, rooms and parties of many kinds.
func eachShipForMemory(do func(cabins []impl.Cabin, rooms []impl.Room, by, class, people, many int)) {
	allCabins := [][]impl.Cabin{nil, shipCabins(), slices.Repeat([]impl.Cabin{cabin(1, 4)}, 6), slices.Repeat([]impl.Cabin{cabin(1, 4)}, 7), {cabin(1, 4), cabin(0, 1)}}
	allRooms := [][]impl.Room{nil, shipRooms(), shipRooms()[:1], manyRooms(23, 6), manyRooms(24, 6), manyRooms(61, 6), {berths(5, 0, 1), berths(5, 0, 1)}, {berths(5, 9, 1)}}
	for _, cabins := range allCabins {
		for _, rooms := range allRooms {
			for _, by := range []int{0, 1, 5, 7, 60, 99, 9999} {
				for class := range 4 {
					do(cabins, rooms, by, class, 1, 1)
					do(cabins, rooms, by, class, 20, 4)
				}
			}
		}
	}
}

// eachSeatsForMemory goes over seats of many kinds.
func eachSeatsForMemory(do func(most int, seats []impl.Seat, by, many int)) {
	for _, seats := range [][]impl.Seat{nil, {seat(5, 3)}, {seat(5, 3), seat(9, 20), seat(1, 1)}, manySeats(59), manySeats(60), manySeats(61), {seat(5, 1), seat(5, 1)}} {
		for _, most := range []int{-1, 0, 24, 25, 60, 500, 501} {
			for _, by := range []int{0, 1, 5, 99, 9999} {
				do(most, seats, by, 1)
				do(most, seats, by, 20)
			}
		}
	}
}

func TestNothingIsWrittenIntoRooms(t *testing.T) {
	eachShipForMemory(func(plainCabins []impl.Cabin, plainRooms []impl.Room, by, class, people, many int) {
		cabins, rooms := cabinsWithRoom(plainCabins, cabin(1, 4), cabin(-3, 7)), roomsWithRoom(plainRooms, berths(98, 0, 1), allOf(-1, -2, -3))
		wasCabins, wasRooms := slices.Clone(cabins[:cap(cabins)]), slices.Clone(rooms[:cap(rooms)])
		r := askRooms(cabins, rooms, by, class, people, many)
		if !slices.Equal(cabins[:cap(cabins)], wasCabins) || !slices.Equal(rooms[:cap(rooms)], wasRooms) {
			t.Fatalf("written into: %+v in %+v", plainRooms, plainCabins)
		}
		scribbleRoomAnswers(r)
		if !slices.Equal(cabins[:cap(cabins)], wasCabins) || !slices.Equal(rooms[:cap(rooms)], wasRooms) {
			t.Fatalf("an answer shares memory with %+v in %+v", plainRooms, plainCabins)
		}
	})
}

func TestNothingIsWrittenIntoSeats(t *testing.T) {
	eachSeatsForMemory(func(most int, plain []impl.Seat, by, many int) {
		seats := seatsWithRoom(plain, seat(98, 1), seat(-1, -2))
		was := slices.Clone(seats[:cap(seats)])
		r := askSeats(most, seats, by, many)
		if !slices.Equal(seats[:cap(seats)], was) {
			t.Fatalf("written into: %+v", plain)
		}
		scribbleSeats(r.Taken)
		if !slices.Equal(seats[:cap(seats)], was) {
			t.Fatalf("an answer shares memory with %+v", plain)
		}
	})
}

func TestRoomAnswersStayWhenTheArgumentChanges(t *testing.T) {
	eachShipForMemory(func(plainCabins []impl.Cabin, plainRooms []impl.Room, by, class, people, many int) {
		cabins, rooms := cabinsWithRoom(plainCabins, cabin(1, 4)), roomsWithRoom(plainRooms, berths(98, 0, 1), berths(97, 0, 1))
		r := askRooms(cabins, rooms, by, class, people, many)
		was := copyRoomAnswers(r)
		scribbleCabins(cabins)
		scribbleRooms(rooms)
		if !sameRoomAnswers(r, was) {
			t.Fatalf("an answer changed with its argument: %+v in %+v", plainRooms, plainCabins)
		}
	})
	eachSeatsForMemory(func(most int, plain []impl.Seat, by, many int) {
		seats := seatsWithRoom(plain, seat(98, 1), seat(97, 1))
		r := askSeats(most, seats, by, many)
		was := slices.Clone(r.Taken)
		scribbleSeats(seats)
		if !slices.Equal(r.Taken, was) {
			t.Fatalf("an answer changed with its argument: %+v", plain)
		}
	})
}

func TestTwoRoomAnswersShareNothing(t *testing.T) {
	eachShipForMemory(func(cabins []impl.Cabin, rooms []impl.Room, by, class, people, many int) {
		first, second := askRooms(cabins, rooms, by, class, people, many), askRooms(cabins, rooms, by, class, people, many)
		was := copyRoomAnswers(second)
		scribbleRoomAnswers(first)
		if !sameRoomAnswers(second, was) || !sameRoomAnswers(askRooms(cabins, rooms, by, class, people, many), was) {
			t.Fatalf("two answers share memory: %+v in %+v", rooms, cabins)
		}
	})
	eachSeatsForMemory(func(most int, seats []impl.Seat, by, many int) {
		first, second := askSeats(most, seats, by, many), askSeats(most, seats, by, many)
		was := slices.Clone(second.Taken)
		scribbleSeats(first.Taken)
		if !slices.Equal(second.Taken, was) || !sameSeatAnswers(askSeats(most, seats, by, many), second) {
			t.Fatalf("two answers share memory: %+v", seats)
		}
	})
}

// Behind the length stand cabins that are free, and rooms that would fill or spoil the ship.
func TestRoomBehindRoomsIsNotRead(t *testing.T) {
	behindCabins := [][]impl.Cabin{{cabin(1, 4), cabin(2, 4), cabin(3, 4)}, {cabin(0, 0), cabin(1, 4)}, slices.Repeat([]impl.Cabin{cabin(777, 444)}, 7)}
	behindRooms := [][]impl.Room{{berths(4321, 0, 1)}, {allOf(1, 0, 4), berths(5, 1, 4)}, make([]impl.Room, 70), {berths(99, 0, 1)}}
	for _, moreCabins := range behindCabins {
		for _, moreRooms := range behindRooms {
			eachShipForMemory(func(cabins []impl.Cabin, rooms []impl.Room, by, class, people, many int) {
				r := askRooms(cabinsWithRoom(cabins, moreCabins...), roomsWithRoom(rooms, moreRooms...), by, class, people, many)
				if want := roomsByWords(cabins, rooms, by, class, people, many); !sameRoomAnswers(r, want) {
					t.Fatalf("%+v in %+v, by %d, class %d: got %+v, want %+v", rooms, cabins, by, class, r, want)
				}
				behind := slices.Concat(r.Whole[len(r.Whole):cap(r.Whole)], r.Berths[len(r.Berths):cap(r.Berths)])
				if slices.ContainsFunc(behind, func(r impl.Room) bool { return r != impl.Room{} }) {
					t.Fatalf("rooms were handed out behind the length: %+v", behind)
				}
				if numbers := r.Free[len(r.Free):cap(r.Free)]; slices.ContainsFunc(numbers, func(n int) bool { return n != 0 }) {
					t.Fatalf("berths were handed out behind the length: %v", numbers)
				}
			})
		}
	}
}

func TestRoomBehindSeatsIsNotRead(t *testing.T) {
	for _, more := range [][]impl.Seat{{seat(4321, 1)}, {seat(1, 20), seat(5, 20)}, make([]impl.Seat, 70), {seat(99, 1)}} {
		eachSeatsForMemory(func(most int, seats []impl.Seat, by, many int) {
			r, want := askSeats(most, seatsWithRoom(seats, more...), by, many), seatsByWords(most, seats, by, many)
			if !sameSeatAnswers(r, want) {
				t.Fatalf("%+v of %d, by %d: got %+v, want %+v", seats, most, by, r, want)
			}
			behind := r.Taken[len(r.Taken):cap(r.Taken)]
			if slices.ContainsFunc(behind, func(s impl.Seat) bool { return s != impl.Seat{} }) {
				t.Fatalf("seats were handed out behind the length: %+v", behind)
			}
		})
	}
}

func TestEmptyAndNilRoomsAreTheSame(t *testing.T) {
	empty, none := askRooms([]impl.Cabin{}, []impl.Room{}, 1, 1, 1, 1), askRooms(nil, nil, 1, 1, 1, 1)
	if want := (roomAnswers{Good: true, FreeOk: true}); !sameRoomAnswers(empty, want) || !sameRoomAnswers(none, want) {
		t.Error(empty, none)
	}
	cabins := shipCabins()
	if !sameRoomAnswers(askRooms(cabins, []impl.Room{}, 1, 1, 1, 1), askRooms(cabins, nil, 1, 1, 1, 1)) {
		t.Error("rooms")
	}
	if !sameSeatAnswers(askSeats(9, []impl.Seat{}, 1, 1), askSeats(9, nil, 1, 1)) {
		t.Error("seats")
	}
}
