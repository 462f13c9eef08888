package tests

import (
	"math/rand"
	"reflect"
	"slices"
	"testing"

	"loop.example/g00084/impl"
)

// busyOffice has bookings of each state, with and without a car, with berths, a whole cabin and without one.
func busyOffice(t *testing.T) impl.Office {
	t.Helper()
	bys := []int{11, 13, 14, 15, 16, 17, 18, 20, 21, 21, 19}
	o, all, good := impl.DoAll(newOffice(t, ferries()...), bys, []impl.Op{
		book("Ann", family(), 1, 2, 4),
		hold("Bo", 150, withBerths(people(1), 2, 2), 1),
		book("Di", withWhole(people(1), 2), 4),
		book("Ed", people(2), 1, 9),
		hold("Fay", 0, people(1), 9),
		book("Gus", withCar(people(2), 200, 290), 1),
		book("Hal", everything(), 1),
		hold("Ida", 30, withWhole(people(1), 3), 2),
		cancel(7, 0),
		expire(8, 31),
		amend(1, withBerths(withCar(people(3), 250, 100), 1, 1), 1, 2, 4),
	})
	wantLoads(t, o,
		impl.Load{Stays: []impl.Stay{stay(17, 1, 200, 290), stay(19, 0, 250, 100)}, Rooms: []impl.Room{berths(13, 1, 2), berths(19, 0, 1)}, Seats: []impl.Seat{seat(13, 1), seat(15, 2), seat(17, 2), seat(19, 3)}},
		impl.Load{Stays: []impl.Stay{stay(19, 0, 250, 100)}, Rooms: []impl.Room{berths(19, 0, 1)}, Seats: []impl.Seat{seat(19, 3)}},
		impl.Load{Stays: []impl.Stay{stay(19, 0, 250, 100)}, Rooms: []impl.Room{allOf(14, 1, 2), berths(19, 0, 1)}, Seats: []impl.Seat{seat(14, 1), seat(19, 3)}},
		impl.Load{Seats: []impl.Seat{seat(15, 2), seat(16, 1)}})
	if !good || len(o.Bookings) != 8 || slices.ContainsFunc(all, func(a impl.Answer) bool { return a.Code != 0 }) {
		t.Fatal(all, good)
	}
	return o
}

// oneOfEach are operations of each kind that may be done on a good office, or be refused.
func oneOfEach() []impl.Op {
	return []impl.Op{
		quote(people(1), 1), hold("Ann", 5, people(1), 1, 2), book("Ann", everything(), 1), confirm(2), amend(1, people(1), 1),
		cancel(1, 5), transfer(1, "Zoe"), expire(2, 9000), manifest(1), {}, book("", people(1), 1), quote(people(1), 2, 1), confirm(30),
	}
}

// wantZeroOffice asks all functions about an office that is not good.
func wantZeroOffice(t *testing.T, what string, o impl.Office) {
	t.Helper()
	if goodOfficeByWords(o) {
		t.Error("good by the words:", what)
	}
	if impl.GoodOffice(o) {
		t.Error("good:", what)
	}
	for _, op := range oneOfEach() {
		if then, a, good := impl.DoOp(o, 77, op); good || !sameAnswer(a, impl.Answer{}) || !sameOffice(then, impl.Office{}) {
			t.Error(what, op, then, a, good)
		}
		if then, all, good := impl.DoAll(o, []int{77}, []impl.Op{op}); good || len(all) != 0 || !sameOffice(then, impl.Office{}) {
			t.Error(what, op, then, all, good)
		}
	}
	if then, all, good := impl.DoAll(o, nil, nil); good || len(all) != 0 || !sameOffice(then, impl.Office{}) {
		t.Error(what, then, all, good)
	}
	for _, id := range []int{1, 2, 4, 9, 0} {
		if rows, good := impl.ManifestOf(o, id); good || len(rows) != 0 {
			t.Error(what, rows, good)
		}
		if lengths, free, many, good := impl.RoomLeft(o, id); good || len(lengths)+len(free) != 0 || many != 0 {
			t.Error(what, lengths, free, many, good)
		}
	}
}

// officeChanges are the ways in which busyOffice is good no more.
func officeChanges() map[string]func(o *impl.Office) {
	return map[string]func(o *impl.Office){
		"a sailing that is not good":       func(o *impl.Office) { o.Sailings[0].Most = 501 },
		"a sailing from where it goes":     func(o *impl.Office) { o.Sailings[3].To = "Kiel" },
		"sailings that fall":               func(o *impl.Office) { o.Sailings[3].Id = 3 },
		"an Id twice":                      func(o *impl.Office) { o.Sailings[3].Id = 4 },
		"a Load too few":                   func(o *impl.Office) { o.Loads = o.Loads[:3] },
		"a Load too many":                  func(o *impl.Office) { o.Loads = append(o.Loads, impl.Load{}) },
		"no Loads":                         func(o *impl.Office) { o.Loads = nil },
		"no sailings":                      func(o *impl.Office) { o.Sailings = nil },
		"no bookings":                      func(o *impl.Office) { o.Bookings = nil },
		"a Name that is 0":                 func(o *impl.Office) { o.Bookings[0].Name = 0 },
		"a Name twice":                     func(o *impl.Office) { o.Bookings[1].Name = 1 },
		"a Name left out":                  func(o *impl.Office) { o.Bookings[4].Name = 6 },
		"Names turned round":               func(o *impl.Office) { o.Bookings[0].Name, o.Bookings[1].Name = 2, 1 },
		"a booking left out":               func(o *impl.Office) { o.Bookings = append(o.Bookings[:1], o.Bookings[2:]...) },
		"an Owner that is no name":         func(o *impl.Office) { o.Bookings[0].Owner = "A n" },
		"an Owner of 13 letters":           func(o *impl.Office) { o.Bookings[0].Owner = "abcdefghijklm" },
		"no Owner":                         func(o *impl.Office) { o.Bookings[2].Owner = "" },
		"a State 0":                        func(o *impl.Office) { o.Bookings[2].State = 0 },
		"a State 5":                        func(o *impl.Office) { o.Bookings[3].State = 5 },
		"an Until below 0":                 func(o *impl.Office) { o.Bookings[1].Until = -1 },
		"an Until above MaxTime":           func(o *impl.Office) { o.Bookings[1].Until = 10001 },
		"an Until below 0, lapsed":         func(o *impl.Office) { o.Bookings[4].State, o.Bookings[4].Until = 4, -1; dropByWords(o, 16) },
		"an Until with a booked one":       func(o *impl.Office) { o.Bookings[0].Until = 1 },
		"a Price below 0":                  func(o *impl.Office) { o.Bookings[0].Price = -1 },
		"a Price above a million":          func(o *impl.Office) { o.Bookings[0].Price = 1000001 },
		"a By of 0":                        func(o *impl.Office) { renameBy(o, 16, 0) },
		"a By of 10000":                    func(o *impl.Office) { renameBy(o, 16, 10000) },
		"a By below 0":                     func(o *impl.Office) { renameBy(o, 16, -1) },
		"a By twice on other sailings":     func(o *impl.Office) { renameBy(o, 16, 14) },
		"a By twice on one sailing":        func(o *impl.Office) { renameBy(o, 16, 15) },
		"a Party of nobody":                func(o *impl.Office) { o.Bookings[2].Party.People = 0 },
		"a Party of 21":                    func(o *impl.Office) { o.Bookings[2].Party.People = 21 },
		"no legs":                          func(o *impl.Office) { o.Bookings[2].Legs = nil },
		"legs that do not fit":             func(o *impl.Office) { o.Bookings[0].Legs = []int{2, 1, 4} },
		"a leg that is none":               func(o *impl.Office) { o.Bookings[3].Legs = []int{1, 3} },
		"a leg less than it holds":         func(o *impl.Office) { o.Bookings[3].Legs = []int{1} },
		"a leg more than it holds":         func(o *impl.Office) { o.Bookings[2].Legs = []int{2, 4} },
		"other legs":                       func(o *impl.Office) { o.Bookings[4].Legs = []int{2} },
		"a stay that is missing":           func(o *impl.Office) { o.Loads[2].Stays = nil },
		"a room that is missing":           func(o *impl.Office) { o.Loads[1].Rooms = nil },
		"a seat that is missing":           func(o *impl.Office) { o.Loads[3].Seats = o.Loads[3].Seats[:1] },
		"a longer stay":                    func(o *impl.Office) { o.Loads[2].Stays[0].Length++ },
		"a lower stay":                     func(o *impl.Office) { o.Loads[2].Stays[0].Height-- },
		"one berth more":                   func(o *impl.Office) { o.Loads[1].Rooms[0].Many = 2 },
		"a room of another class":          func(o *impl.Office) { o.Loads[1].Rooms[0].Cabin = 1 },
		"a room that is whole":             func(o *impl.Office) { o.Loads[1].Rooms[0] = allOf(19, 0, 4) },
		"a room that is not whole":         func(o *impl.Office) { o.Loads[2].Rooms[0].Whole = false },
		"one seat more":                    func(o *impl.Office) { o.Loads[0].Seats[0].Many++ },
		"a stay that nobody has":           func(o *impl.Office) { o.Loads[1].Stays = append(o.Loads[1].Stays, stay(77, 0, 1, 1)) },
		"a room that nobody has":           func(o *impl.Office) { o.Loads[1].Rooms = append(o.Loads[1].Rooms, berths(77, 0, 1)) },
		"a seat that nobody has":           func(o *impl.Office) { o.Loads[1].Seats = append(o.Loads[1].Seats, seat(77, 1)) },
		"a stay of one without a car":      func(o *impl.Office) { o.Loads[0].Stays = append(o.Loads[0].Stays, stay(13, 1, 1, 1)) },
		"a room of one without a cabin":    func(o *impl.Office) { o.Loads[0].Rooms = append(o.Loads[0].Rooms, berths(15, 1, 1)) },
		"a stay where it does not sail":    func(o *impl.Office) { o.Loads[1].Stays = append(o.Loads[1].Stays, stay(17, 0, 200, 290)) },
		"a room where it does not sail":    func(o *impl.Office) { o.Loads[1].Rooms = append(o.Loads[1].Rooms, berths(13, 0, 2)) },
		"a seat where it does not sail":    func(o *impl.Office) { o.Loads[1].Seats = append(o.Loads[1].Seats, seat(16, 1)) },
		"a cancelled one that holds":       func(o *impl.Office) { o.Bookings[0].State = 3 },
		"a lapsed one that holds":          func(o *impl.Office) { o.Bookings[4].State = 4 },
		"what another one holds":           func(o *impl.Office) { o.Loads[3].Seats[0].By, o.Loads[3].Seats[1].By = 16, 15 },
		"a stay in a lane that is none":    func(o *impl.Office) { o.Loads[2].Stays[0].Lane = 2 },
		"a stay in a lane too low":         func(o *impl.Office) { o.Loads[0].Stays[0].Lane = 0 },
		"a room in a cabin that is none":   func(o *impl.Office) { o.Loads[2].Rooms[0].Cabin = 2 },
		"a whole room with fewer berths":   func(o *impl.Office) { o.Loads[2].Rooms[0].Many = 1 },
		"more people than may sail":        func(o *impl.Office) { o.Sailings[3].Most = 2 },
		"Loads turned round":               func(o *impl.Office) { slices.Reverse(o.Loads) },
		"a stay twice":                     func(o *impl.Office) { o.Loads[2].Stays = append(o.Loads[2].Stays, o.Loads[2].Stays[0]) },
		"a seat twice":                     func(o *impl.Office) { o.Loads[3].Seats = append(o.Loads[3].Seats, o.Loads[3].Seats[0]) },
		"a room twice":                     func(o *impl.Office) { o.Loads[2].Rooms = append(o.Loads[2].Rooms, berths(19, 0, 1)) },
		"a Party without what is held":     func(o *impl.Office) { o.Bookings[0].Party = people(3) },
		"a Party with what is not held":    func(o *impl.Office) { o.Bookings[4].Party = everything() },
		"a Party that is not good":         func(o *impl.Office) { o.Bookings[2].Party.Berths = 1 },
		"a lane gone":                      func(o *impl.Office) { o.Sailings[0].Lanes = o.Sailings[0].Lanes[:1] },
		"a lane that is not good":          func(o *impl.Office) { o.Sailings[0].Lanes[0].Height = 99 },
		"a cabin gone":                     func(o *impl.Office) { o.Sailings[2].Cabins = o.Sailings[2].Cabins[:1] },
		"a cabin of another class":         func(o *impl.Office) { o.Sailings[2].Cabins[1].Class = 3 },
		"a cabin with more berths, whole":  func(o *impl.Office) { o.Sailings[2].Cabins[1].Berths = 3 },
		"a leg that departs ahead":         func(o *impl.Office) { o.Sailings[1].Depart = 299 },
		"a leg from another place":         func(o *impl.Office) { o.Sailings[1].From = "Kiev" },
		"a stay of nobody instead of hers": func(o *impl.Office) { o.Loads[2].Stays[0].By = 77 },
		"a room of nobody instead of hers": func(o *impl.Office) { o.Loads[2].Rooms[0].By = 77 },
		"a seat of nobody instead of hers": func(o *impl.Office) { o.Loads[3].Seats[0].By = 77 },
	}
}

// renameBy gives a Booking, and all that it holds, another By.
func renameBy(o *impl.Office, by, other int) {
	for i := range o.Bookings {
		if o.Bookings[i].By == by {
			o.Bookings[i].By = other
		}
	}
	for _, load := range o.Loads {
		for i := range load.Stays {
			if load.Stays[i].By == by {
				load.Stays[i].By = other
			}
		}
		for i := range load.Rooms {
			if load.Rooms[i].By == by {
				load.Rooms[i].By = other
			}
		}
		for i := range load.Seats {
			if load.Seats[i].By == by {
				load.Seats[i].By = other
			}
		}
	}
}

func TestOfficesThatAreNotGood(t *testing.T) {
	busy := busyOffice(t)
	for what, change := range officeChanges() {
		o := copyOffice(busy)
		change(&o)
		wantZeroOffice(t, what, o)
	}
	for what, change := range map[string]func(o *impl.Office){
		"an Until with a cancelled one": func(o *impl.Office) { o.Bookings[6].Until = 1 },
		"an Until above, lapsed":        func(o *impl.Office) { o.Bookings[7].Until = 10001 },
		"an Until below, lapsed":        func(o *impl.Office) { o.Bookings[7].Until = -1 },
		"a cancelled one that is live":  func(o *impl.Office) { o.Bookings[6].State = 2 },
		"a lapsed one that is live":     func(o *impl.Office) { o.Bookings[7].State = 1 },
		"a By twice, cancelled":         func(o *impl.Office) { o.Bookings[6].By = 19 },
		"a By twice, both gone":         func(o *impl.Office) { o.Bookings[6].By = 20 },
		"legs that fit no more":         func(o *impl.Office) { o.Bookings[6].Legs = []int{9, 2} },
		"four legs":                     func(o *impl.Office) { o.Bookings[6].Legs = []int{1, 2, 4, 9} },
		"a Party that is not good":      func(o *impl.Office) { o.Bookings[7].Party.Length = 1 },
		"no Owner":                      func(o *impl.Office) { o.Bookings[7].Owner = "" },
		"a Price above a million":       func(o *impl.Office) { o.Bookings[6].Price = 1000001 },
		"a By that is none":             func(o *impl.Office) { o.Bookings[6].By = 0 },
		"a Name that is not the next":   func(o *impl.Office) { o.Bookings[7].Name = 7 },
		"a seat of a cancelled one":     func(o *impl.Office) { o.Loads[0].Seats = append(o.Loads[0].Seats, seat(18, 1)) },
	} {
		o := copyOffice(busy)
		change(&o)
		wantZeroOffice(t, what, o)
	}
}

func TestTooManyBookings(t *testing.T) {
	o := fullOffice(t, wide()...)
	more := o.Bookings[1]
	more.Name, more.By = 31, 31
	o.Bookings = append(o.Bookings, more)
	wantZeroOffice(t, "31 bookings", o)
	for by := 32; by <= 2000; by++ {
		more.Name, more.By = by, by
		o.Bookings = append(o.Bookings, more)
	}
	wantZeroOffice(t, "2000 bookings", o)
}

func TestTimetablesOfNoOffice(t *testing.T) {
	wrong := map[string][]impl.Sailing{"turned round": {fullSailing(2), fullSailing(1)}, "an Id twice": {fullSailing(1), fullSailing(1)}}
	for what, s := range sailingsThatAreNotGood() {
		wrong[what] = []impl.Sailing{s}
		wrong[what+", behind others"] = []impl.Sailing{fullSailing(1), s}
	}
	wrong["seven"] = sailingsWithIds(1, 2, 3, 4, 5, 6, 7)
	for what, l := range wrong {
		if o, good := impl.NewOffice(l); good || !sameOffice(o, impl.Office{}) {
			t.Error(what, o, good)
		}
		wantZeroOffice(t, what, impl.Office{Sailings: l, Loads: make([]impl.Load, len(l))})
	}
	if o, good := impl.NewOffice(sailingsWithIds(1, 2, 3, 4, 5, 99)); !good || len(o.Loads) != 6 || !impl.GoodOffice(o) {
		t.Error(o, good)
	}
}

func TestOfficesThatAreGoodAtTheEdge(t *testing.T) {
	busy := busyOffice(t)
	for what, change := range map[string]func(o *impl.Office){
		"nothing":                   func(o *impl.Office) {},
		"an Owner of 12 letters":    func(o *impl.Office) { o.Bookings[0].Owner = "abcdefghIJKL" },
		"an Owner of 1 letter":      func(o *impl.Office) { o.Bookings[0].Owner = "z" },
		"one Owner for all":         func(o *impl.Office) { o.Bookings[0].Owner, o.Bookings[1].Owner = "Ann", "Ann" },
		"a Price of 0":              func(o *impl.Office) { o.Bookings[0].Price = 0 },
		"a Price of a million":      func(o *impl.Office) { o.Bookings[0].Price = 1000000 },
		"a held one, now booked":    func(o *impl.Office) { o.Bookings[1].State, o.Bookings[1].Until = 2, 0 },
		"a booked one, now held":    func(o *impl.Office) { o.Bookings[0].State, o.Bookings[0].Until = 1, 10000 },
		"an Until of 0":             func(o *impl.Office) { o.Bookings[1].Until = 0 },
		"an Until of MaxTime":       func(o *impl.Office) { o.Bookings[1].Until = 10000 },
		"an Until of 0, lapsed":     func(o *impl.Office) { o.Bookings[7].Until = 0 },
		"MaxTime, lapsed":           func(o *impl.Office) { o.Bookings[7].Until = 10000 },
		"a By of 1":                 func(o *impl.Office) { renameBy(o, 19, 1) },
		"a By of 9999":              func(o *impl.Office) { renameBy(o, 19, 9999) },
		"another lane":              func(o *impl.Office) { o.Loads[0].Stays[1].Lane = 1 },
		"another cabin":             func(o *impl.Office) { o.Loads[0].Rooms[1].Cabin = 2 },
		"stays turned round":        func(o *impl.Office) { slices.Reverse(o.Loads[0].Stays) },
		"rooms turned round":        func(o *impl.Office) { slices.Reverse(o.Loads[0].Rooms) },
		"seats turned round":        func(o *impl.Office) { slices.Reverse(o.Loads[0].Seats) },
		"other legs of a cancelled": func(o *impl.Office) { o.Bookings[6].Legs = []int{2, 4} },
		"what no ship has room for": func(o *impl.Office) { o.Bookings[6].Party = withWhole(withCar(people(20), 2000, 500), 3) },
	} {
		o := copyOffice(busy)
		change(&o)
		if !impl.GoodOffice(o) || !goodOfficeByWords(o) {
			t.Error(what, o)
		}
		for _, id := range []int{1, 2, 4, 9} {
			checkSeen(t, o, id)
		}
		for _, op := range oneOfEach() {
			checkOp(t, o, 77, op)
		}
	}
	if o := fullOffice(t, wide()...); len(o.Bookings) != 30 || !impl.GoodOffice(o) {
		t.Error("30 bookings")
	}
}

// A whole cabin may be one with too few berths, and one with more than are needed.
func TestAnyCabinOfTheClassMayBeHeldWhole(t *testing.T) {
	o := told(t, newOffice(t, ferries()...), 1, book("Ann", withWhole(people(1), 1), 1), 1, 130)
	for number, many := range map[int]int{0: 2, 2: 4} {
		o.Loads[0].Rooms[0] = allOf(1, number, many)
		if !impl.GoodOffice(o) || !goodOfficeByWords(o) {
			t.Error(number, many)
		}
	}
	o.Loads[0].Rooms[0] = allOf(1, 1, 4)
	wantZeroOffice(t, "a whole cabin of another class", o)
}

func textsForFields() []string { return []string{"", "A n", "Zoe", "abcdefghijklm", "Kiel", "1"} }

// Every field of an office is changed, one after the other, to numbers at and far beyond its bounds.
func TestEveryChangeOfAnOfficeAgainstTheWords(t *testing.T) {
	o := copyOffice(busyOffice(t))
	numbers := append(numbersFarOut(), 0, 1, 2, 3, 4, 5, 9, 11, 13, 16, 77, 100, 300, 9999, 10000, 1000000, 1000001)
	good, wrong := 0, 0
	eachChange(reflect.ValueOf(&o).Elem(), "the office", numbers, textsForFields(), func(what string) {
		got := checkOffice(t, what, o, 77, amend(1, everything(), 1, 2), []int{77, 78}, []impl.Op{book("Zoe", people(1), 1), manifest(1)}, 1)
		good, wrong = good+count(got.Good), wrong+count(!got.Good)
	})
	if good < 100 || wrong < 1000 {
		t.Error(good, wrong)
	}
	wantOffice(t, o, busyOffice(t))
}

func TestEveryChangeOfAnOperationAgainstTheWords(t *testing.T) {
	busy := busyOffice(t)
	numbers := append(numbersFarOut(), 0, 1, 2, 4, 5, 9, 20, 21, 30, 31, 500, 501, 2000, 2001, 9999, 10000)
	good, wrong := 0, 0
	for _, op := range append(oneOfEach(), hold("Ann", 5, withWhole(withCar(people(1), 1, 1), 1), 1, 2, 4), amend(1, everything(), 9)) {
		eachChange(reflect.ValueOf(&op).Elem(), "the operation", numbers, textsForFields(), func(what string) {
			if got := impl.GoodOp(op); got != goodOpByWords(op) {
				t.Fatal(what, op, got)
			} else {
				good, wrong = good+count(got), wrong+count(!got)
			}
			checkOp(t, busy, 77, op)
		})
	}
	if good < 300 || wrong < 1000 {
		t.Error(good, wrong)
	}
}

// goodOps has an operation of each kind that is good on any office.
func goodOps() map[int]impl.Op {
	return map[int]impl.Op{
		impl.OpQuote: quote(people(1), 1), impl.OpHold: hold("Ann", 5, people(1), 1), impl.OpBook: book("Ann", people(1), 1),
		impl.OpConfirm: confirm(1), impl.OpAmend: amend(1, people(1), 1), impl.OpCancel: cancel(1, 5), impl.OpTransfer: transfer(1, "Ann"),
		impl.OpExpire: expire(1, 5), impl.OpManifest: manifest(1),
	}
}

func wantGoodOp(t *testing.T, op impl.Op, want bool) {
	t.Helper()
	if got := impl.GoodOp(op); got != want || goodOpByWords(op) != want {
		t.Errorf("%+v: %v", op, got)
	}
	_, a, good := impl.DoOp(newOffice(t, ferries()...), 1, op)
	if !good || (a.Code == impl.AnsForm) == want {
		t.Errorf("%+v: %+v, %v", op, a, good)
	}
}

func TestKindsThatAreNone(t *testing.T) {
	for kind, op := range goodOps() {
		wantGoodOp(t, op, true)
		for _, wrong := range append(numbersFarOut(), 0, 10, 11, 99, 256+kind, 1<<16+kind) {
			op.Kind = wrong
			wantGoodOp(t, op, false)
		}
	}
	for _, kind := range append(numbersFarOut(), 0, 10) {
		wantGoodOp(t, impl.Op{Kind: kind}, false)
	}
	for kind := impl.OpQuote; kind <= impl.OpManifest; kind++ {
		wantGoodOp(t, impl.Op{Kind: kind}, false)
	}
}

// Each field of each Kind: at its bounds, beyond them, and where it is not named.
func TestFieldsOfEveryKind(t *testing.T) {
	for kind, op := range goodOps() {
		has := func(kinds ...int) bool { return slices.Contains(kinds, kind) }
		try := func(named, good bool, change func(op *impl.Op)) {
			t.Helper()
			c := op
			c.Legs = slices.Clone(op.Legs)
			change(&c)
			wantGoodOp(t, c, named && good)
		}
		named := has(impl.OpHold, impl.OpBook, impl.OpTransfer)
		for _, s := range textsThatAreNames() {
			try(named, true, func(op *impl.Op) { op.Owner = s })
		}
		for _, s := range textsThatAreNoNames() {
			if s != "" || named {
				try(named, false, func(op *impl.Op) { op.Owner = s })
			}
		}
		named = has(impl.OpConfirm, impl.OpAmend, impl.OpCancel, impl.OpTransfer, impl.OpExpire)
		for _, n := range append(numbersFarOut(), 1, 2, 29, 30, 31) {
			try(named, n >= 1 && n <= 30, func(op *impl.Op) { op.Name = n })
		}
		try(!named, true, func(op *impl.Op) { op.Name = 0 })
		named = has(impl.OpHold)
		for _, n := range append(numbersFarOut(), 1, 9999, 10000) {
			try(named, n >= 0 && n <= 10000, func(op *impl.Op) { op.Until = n })
		}
		try(true, true, func(op *impl.Op) { op.Until = 0 })
		named = has(impl.OpCancel, impl.OpExpire)
		for _, n := range append(numbersFarOut(), 1, 9999, 10000) {
			try(named, n >= 0 && n <= 10000, func(op *impl.Op) { op.Now = n })
		}
		try(true, true, func(op *impl.Op) { op.Now = 0 })
	}
}

func TestLegsAndPartiesOfEveryKind(t *testing.T) {
	for kind, op := range goodOps() {
		placing := slices.Contains([]int{impl.OpQuote, impl.OpHold, impl.OpBook, impl.OpAmend}, kind)
		most := 0
		if placing {
			most = 3
		} else if kind == impl.OpManifest {
			most = 1
		}
		for many := range 6 {
			for _, leg := range append(numbersFarOut(), 0, 1, 77) {
				c := op
				c.Legs = slices.Repeat([]int{leg}, many)
				wantGoodOp(t, c, many <= most && (many >= 1 || most == 0))
			}
		}
		for _, p := range []impl.Party{people(1), people(20), everything(), withWhole(people(1), 3), withCar(people(1), 2000, 500), withBerths(people(2), 3, 4)} {
			c := op
			c.Party = p
			wantGoodOp(t, c, placing)
		}
		for _, p := range []impl.Party{{}, people(0), people(-1), people(21), withCar(people(1), 0, 1), withCar(people(1), 1, 0), withCar(people(1), 2001, 1), withBerths(people(1), 4, 1), withBerths(people(1), 1, 5), {People: 1, Whole: true}, {Class: 1}, {Whole: true}, {Berths: 1}, {Length: 1}, {Height: 1}} {
			c := op
			c.Party = p
			wantGoodOp(t, c, p == impl.Party{} && !placing)
		}
	}
}

func TestBysThatAreWrong(t *testing.T) {
	busy := busyOffice(t)
	bys := append(numbersFarOut(), 0, 10000, 256*256+1)
	for _, b := range busy.Bookings {
		bys = append(bys, b.By)
	}
	for _, o := range []impl.Office{busy, newOffice(t, ferries()...)} {
		if len(o.Bookings) == 0 {
			bys = bys[:len(bys)-len(busy.Bookings)]
		}
		for _, by := range bys {
			for _, op := range oneOfEach() {
				if then, a, good := impl.DoOp(o, by, op); good || !sameAnswer(a, impl.Answer{}) || !sameOffice(then, impl.Office{}) {
					t.Error(by, op, a, good)
				}
				if then, all, good := impl.DoAll(o, []int{77, by}, []impl.Op{quote(people(1), 1), op}); good || len(all) != 0 || !sameOffice(then, impl.Office{}) {
					t.Error(by, op, all, good)
				}
			}
		}
		for _, by := range []int{1, 10, 12, 20, 9999} {
			for _, op := range oneOfEach() {
				checkOp(t, o, by, op)
			}
		}
	}
}

func TestSailingsThatAreNone(t *testing.T) {
	busy := busyOffice(t)
	for _, id := range append(numbersFarOut(), 0, 3, 5, 8, 10, 99, 100, 256+1) {
		if rows, good := impl.ManifestOf(busy, id); good || len(rows) != 0 {
			t.Error(id, rows)
		}
		if lengths, free, many, good := impl.RoomLeft(busy, id); good || len(lengths)+len(free) != 0 || many != 0 {
			t.Error(id, lengths, free, many)
		}
		refused(t, busy, 77, manifest(id), impl.AnsRoute)
		refused(t, busy, 77, quote(people(1), id), impl.AnsRoute)
		refused(t, busy, 77, book("Ann", people(1), 1, id), impl.AnsRoute)
		if rows, good := impl.ManifestOf(impl.Office{}, id); good || len(rows) != 0 {
			t.Error(id, rows)
		}
	}
}

// eachOfficeForMemory has offices that are good and not, with operations that are done, refused and wrong.
func eachOfficeForMemory(t *testing.T, do func(o impl.Office, by int, op impl.Op, bys []int, ops []impl.Op, sailing int)) {
	busy := busyOffice(t)
	wrong := copyOffice(busy)
	wrong.Bookings[0].State = 9
	bys, ops := []int{101, 102, 103, 104, 105}, []impl.Op{manifest(1), book("Gus", everything(), 1, 2), manifest(1), manifest(2), amend(1, family(), 1)}
	for _, o := range []impl.Office{busy, newOffice(t, ferries()...), {}, wrong, fullOffice(t, wide()...)} {
		for _, op := range append(oneOfEach(), book("Ann", people(20), 1), book("Ann", withCar(people(1), 901, 1), 1)) {
			do(o, 77, op, bys, ops, 1)
		}
		do(o, 77, manifest(9), bys[:1], ops, 9)
		do(o, 11, manifest(1), nil, nil, 4)
	}
}

func TestNothingIsWrittenIntoAnOffice(t *testing.T) {
	eachOfficeForMemory(t, func(o impl.Office, by int, op impl.Op, bys []int, ops []impl.Op, sailing int) {
		for _, junk := range []int{0, 1, -1} {
			type given struct {
				O    impl.Office
				Op   impl.Op
				Bys  []int
				Many []impl.Op
			}
			g := roomy(given{o, op, bys, ops}, junk)
			was := allIn(g)
			askOffice(g.O, by, g.Op, g.Bys, g.Many, sailing)
			if now := allIn(g); now != was {
				t.Fatalf("%+v, %+v: was\n%s, is\n%s", op, ops, was, now)
			}
		}
	})
}

func TestRoomBehindAnOfficesListsIsNotRead(t *testing.T) {
	eachOfficeForMemory(t, func(o impl.Office, by int, op impl.Op, bys []int, ops []impl.Op, sailing int) {
		want := inWords(askOffice(o, by, op, bys, ops, sailing))
		for _, junk := range []int{0, 1, -1, 77} {
			got := askOffice(roomy(o, junk), by, roomy(op, junk), roomy(bys, junk), roomy(ops, junk), sailing)
			if inWords(got) != want {
				t.Fatalf("%+v, %+v:\n%+v, not\n%s", op, ops, got, want)
			}
		}
	})
}

// Not even the room behind two lists is the same.
func TestAnOfficesAnswersShareNothing(t *testing.T) {
	eachOfficeForMemory(t, func(o impl.Office, by int, op impl.Op, bys []int, ops []impl.Op, sailing int) {
		for _, junk := range []int{0, 1} {
			o, op, bys, ops := roomy(o, junk), roomy(op, junk), roomy(bys, junk), roomy(ops, junk)
			first, second := askOffice(o, by, op, bys, ops, sailing), askOffice(o, by, op, bys, ops, sailing)
			wantApart(t, "the office's answers", first, second, o, op, bys, ops)
		}
	})
}

func TestAnOfficesAnswersStayWhenTheArgumentsChange(t *testing.T) {
	eachOfficeForMemory(t, func(o impl.Office, by int, op impl.Op, bys []int, ops []impl.Op, sailing int) {
		o, op, bys, ops = roomy(o, 1), roomy(op, 1), roomy(bys, 1), roomy(ops, 1)
		got := askOffice(o, by, op, bys, ops, sailing)
		want := inWords(got)
		scribbleAll(reflect.ValueOf(&o).Elem())
		scribbleAll(reflect.ValueOf(&op).Elem())
		scribbleAll(reflect.ValueOf(&bys).Elem())
		scribbleAll(reflect.ValueOf(&ops).Elem())
		if inWords(got) != want {
			t.Fatalf("%+v, not\n%s", got, want)
		}
	})
}

// scribbleAll writes into all lists of a value, and behind them.
func scribbleAll(v reflect.Value) {
	switch v.Kind() {
	case reflect.Struct:
		for i := range v.NumField() {
			scribbleAll(v.Field(i))
		}
	case reflect.Slice:
		all := v.Slice(0, v.Cap())
		for i := range all.Len() {
			scribbleAll(all.Index(i))
		}
	case reflect.Int:
		v.SetInt(-4321)
	case reflect.String:
		v.SetString("scribble")
	}
}

// Lists of an argument that lie in one piece of memory are apart in the answer.
func TestListsThatShareMemoryInTheArgument(t *testing.T) {
	o := newOffice(t, chain(0, 0, 0)...)
	o = told(t, o, 1, book("Ann", people(1), 1, 2), 1, 80)
	o = told(t, o, 2, book("Bo", people(1), 1, 2), 2, 80)
	legs := []int{1, 2, 3}
	o.Bookings[0].Legs, o.Bookings[1].Legs = legs[:2], legs[:2]
	o.Loads[1].Seats = o.Loads[0].Seats
	o.Sailings[1].Lanes, o.Sailings[1].Cabins = o.Sailings[0].Lanes, o.Sailings[0].Cabins
	for _, op := range []impl.Op{book("Cy", people(1), legs...), amend(1, people(2), legs...), cancel(2, 0), manifest(1), {}, quote(people(1), legs...)} {
		then, a, good := impl.DoOp(o, 3, op)
		if !good {
			t.Fatal(op, a)
		}
		wantApart(t, "an operation", struct {
			O impl.Office
			A impl.Answer
		}{then, a}, o, op)
		checkOp(t, o, 3, op)
	}
	then, all, good := impl.DoAll(o, []int{3, 3, 4, 5}, []impl.Op{manifest(1), book("Cy", people(1), legs...), book("Di", people(1), legs...), manifest(1)})
	if !good {
		t.Fatal(all)
	}
	wantApart(t, "many operations", struct {
		O impl.Office
		A []impl.Answer
	}{then, all}, o, legs)
	fresh, _ := impl.NewOffice(o.Sailings)
	wantApart(t, "a new office", fresh, o)
}

func TestEmptyAndNilListsOfAnOfficeAreTheSame(t *testing.T) {
	o := newOffice(t, sail(1, "Oslo", "Kiel", 1, 2))
	o.Sailings[0].Most = 3
	empty := copyOffice(o)
	empty.Sailings[0].Lanes, empty.Sailings[0].Cabins = []impl.Lane{}, []impl.Cabin{}
	empty.Loads[0] = impl.Load{Stays: []impl.Stay{}, Rooms: []impl.Room{}, Seats: []impl.Seat{}}
	empty.Bookings = []impl.Booking{}
	none := copyOffice(o)
	none.Sailings[0].Lanes, none.Sailings[0].Cabins, none.Loads[0], none.Bookings = nil, nil, impl.Load{}, nil
	for _, op := range append(oneOfEach(), impl.Op{Kind: impl.OpConfirm, Name: 1, Legs: []int{}}) {
		a, b := askOffice(empty, 1, op, []int{}, []impl.Op{}, 1), askOffice(none, 1, op, nil, nil, 1)
		if inWords(a) != inWords(b) || !a.Good || !a.Done {
			t.Errorf("%+v, and %+v", a, b)
		}
	}
	wantGoodOp(t, impl.Op{Kind: impl.OpConfirm, Name: 1, Legs: []int{}}, true)
}

// What was asked ahead is not to be seen in an answer.
func TestOfficesHangOnNothingElse(t *testing.T) {
	r := rand.New(rand.NewSource(7))
	busy := busyOffice(t)
	var ops []impl.Op
	var first []string
	for range 300 {
		op := randomOp(r, busy)
		ops = append(ops, op)
		first = append(first, inWords(askOffice(busy, 77, op, []int{77}, []impl.Op{op}, 1)))
	}
	for i := len(ops) - 1; i >= 0; i-- {
		impl.DoOp(busy, 77, book("Ann", people(9), 1))
		if again := inWords(askOffice(busy, 77, ops[i], []int{77}, []impl.Op{ops[i]}, 1)); again != first[i] {
			t.Fatalf("%+v: %s, and then %s", ops[i], first[i], again)
		}
	}
}
