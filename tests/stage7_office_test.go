package tests

import (
	"math/rand"
	"slices"
	"testing"

	"loop.example/g00084/impl"
)

// family costs 200 a leg, and 540 on three.
func family() impl.Party { return withBerths(withCar(people(2), 400, 150), 1, 2) }

// everything is a party that needs a lane, a cabin and a seat.
func everything() impl.Party { return withBerths(withCar(people(1), 100, 100), 1, 1) }

func TestOfficeConstants(t *testing.T) {
	if impl.MaxBookings != 30 {
		t.Error(impl.MaxBookings)
	}
	kinds := []int{impl.OpQuote, impl.OpHold, impl.OpBook, impl.OpConfirm, impl.OpAmend, impl.OpCancel, impl.OpTransfer, impl.OpExpire, impl.OpManifest}
	if !slices.Equal(kinds, []int{1, 2, 3, 4, 5, 6, 7, 8, 9}) {
		t.Error(kinds)
	}
	codes := []int{impl.AnsOk, impl.AnsForm, impl.AnsRoute, impl.AnsNone, impl.AnsState, impl.AnsDeck, impl.AnsCabin, impl.AnsPeople, impl.AnsFull}
	if !slices.Equal(codes, []int{0, 1, 2, 3, 4, 5, 6, 7, 8}) {
		t.Error(codes)
	}
	states := []int{impl.StateHeld, impl.StateBooked, impl.StateCancelled, impl.StateLapsed}
	if !slices.Equal(states, []int{1, 2, 3, 4}) {
		t.Error(states)
	}
}

func TestANewOffice(t *testing.T) {
	o := newOffice(t, ferries()...)
	wantOffice(t, o, impl.Office{Sailings: ferries(), Loads: make([]impl.Load, 4)})
	if !impl.GoodOffice(o) {
		t.Error("a new office is not good")
	}
	none := newOffice(t)
	wantOffice(t, none, impl.Office{})
	if !impl.GoodOffice(none) || !impl.GoodOffice(impl.Office{}) {
		t.Error("an office without sailings is not good")
	}
}

func TestAQuote(t *testing.T) {
	o := newOffice(t, ferries()...)
	for _, legs := range [][]int{{1}, {1, 2}, {1, 2, 4}} {
		price, _ := priceByWords(family(), len(legs))
		then := done(t, o, 7, quote(family(), legs...), impl.Answer{Price: price})
		wantOffice(t, then, o)
	}
	then := done(t, o, 7, quote(people(3), 9), impl.Answer{Price: 120})
	wantOffice(t, then, o)
	done(t, then, 7, quote(people(3), 9), impl.Answer{Price: 120}) // the by is as new as before
}

func TestABooking(t *testing.T) {
	o := told(t, newOffice(t, ferries()...), 7, book("Ann", family(), 1, 2, 4), 1, 540)
	wantLoads(t, o,
		impl.Load{Stays: []impl.Stay{stay(7, 0, 400, 150)}, Rooms: []impl.Room{berths(7, 0, 2)}, Seats: []impl.Seat{seat(7, 2)}},
		impl.Load{Stays: []impl.Stay{stay(7, 0, 400, 150)}, Rooms: []impl.Room{berths(7, 0, 2)}, Seats: []impl.Seat{seat(7, 2)}},
		impl.Load{Stays: []impl.Stay{stay(7, 1, 400, 150)}, Rooms: []impl.Room{berths(7, 0, 2)}, Seats: []impl.Seat{seat(7, 2)}})
	ann := impl.Booking{Name: 1, By: 7, Owner: "Ann", Legs: []int{1, 2, 4}, Party: family(), State: impl.StateBooked, Price: 540}
	wantBookings(t, o, ann)

	whole := withWhole(people(3), 1)
	o = told(t, o, 3, book("Bo", whole, 1), 2, 210)
	wantLoads(t, o,
		impl.Load{Stays: []impl.Stay{stay(7, 0, 400, 150)}, Rooms: []impl.Room{berths(7, 0, 2), allOf(3, 2, 4)}, Seats: []impl.Seat{seat(7, 2), seat(3, 3)}},
		o.Loads[1], o.Loads[2])
	wantBookings(t, o, ann, impl.Booking{Name: 2, By: 3, Owner: "Bo", Legs: []int{1}, Party: whole, State: impl.StateBooked, Price: 210})
}

func TestAHold(t *testing.T) {
	for _, until := range []int{0, 150, impl.MaxTime} {
		o := told(t, newOffice(t, ferries()...), 9999, hold("Bo", until, people(3), 9), 1, 120)
		wantLoads(t, o, impl.Load{}, impl.Load{}, impl.Load{}, impl.Load{Seats: []impl.Seat{seat(9999, 3)}})
		wantBookings(t, o, impl.Booking{Name: 1, By: 9999, Owner: "Bo", Legs: []int{9}, Party: people(3), State: impl.StateHeld, Until: until, Price: 120})
	}
}

func TestAConfirmation(t *testing.T) {
	o := told(t, newOffice(t, ferries()...), 1, book("Ann", family(), 1), 1, 200)
	o = told(t, o, 2, hold("Bo", 150, people(3), 9), 2, 120)
	then := told(t, o, 3, confirm(2), 2, 120)
	want := copyOffice(o)
	want.Bookings[1].State, want.Bookings[1].Until = impl.StateBooked, 0
	wantOffice(t, then, want)
	refused(t, then, 3, confirm(2), impl.AnsState)
}

// A price that is the Booking's own need not be what PriceOf says.
func TestAConfirmationTellsTheBookingsOwnPrice(t *testing.T) {
	o := told(t, newOffice(t, ferries()...), 2, hold("Bo", 150, people(3), 9), 1, 120)
	o.Bookings[0].Price = 77
	o = told(t, o, 3, confirm(1), 1, 77)
	o = told(t, o, 3, cancel(1, 300), 1, 38)
	if o.Bookings[0].Price != 77 {
		t.Error(o.Bookings[0])
	}
}

func TestAnAmendment(t *testing.T) {
	o := told(t, newOffice(t, ferries()...), 1, hold("Ann", 150, family(), 1, 2), 1, 400)
	o = told(t, o, 2, book("Bo", withCar(people(1), 450, 150), 1), 2, 100)
	smaller := withWhole(withCar(people(4), 300, 150), 1)
	then := told(t, o, 3, amend(1, smaller, 1), 1, 310)
	wantLoads(t, then, impl.Load{
		Stays: []impl.Stay{stay(2, 1, 450, 150), stay(3, 0, 300, 150)},
		Rooms: []impl.Room{allOf(3, 2, 4)},
		Seats: []impl.Seat{seat(2, 1), seat(3, 4)},
	})
	wantBookings(t, then,
		impl.Booking{Name: 1, By: 3, Owner: "Ann", Legs: []int{1}, Party: smaller, State: impl.StateHeld, Until: 150, Price: 310},
		o.Bookings[1])
	booked := told(t, told(t, then, 4, confirm(1), 1, 310), 1, amend(1, people(1), 9), 1, 40) // by 1 is new again
	wantBookings(t, booked,
		impl.Booking{Name: 1, By: 1, Owner: "Ann", Legs: []int{9}, Party: people(1), State: impl.StateBooked, Price: 40},
		o.Bookings[1])
}

func TestACancellation(t *testing.T) {
	fresh := newOffice(t, ferries()...)
	for _, op := range []impl.Op{hold("Ann", 150, family(), 1, 2, 4), book("Ann", family(), 1, 2, 4)} {
		o := told(t, fresh, 1, op, 1, 540)
		o = told(t, o, 2, cancel(1, 100), 1, 540)
		wantLoads(t, o)
		wantBookings(t, o, impl.Booking{Name: 1, By: 1, Owner: "Ann", Legs: []int{1, 2, 4}, Party: family(), State: impl.StateCancelled, Price: 540})
	}
}

func TestATransfer(t *testing.T) {
	for _, op := range []impl.Op{hold("Ann", 150, family(), 1, 2), book("Ann", family(), 1, 2)} {
		o := told(t, newOffice(t, ferries()...), 1, op, 1, 400)
		for _, owner := range []string{"Zoe", "abcdefghijkl", "Ann"} {
			want := copyOffice(o)
			want.Bookings[0].Owner = owner
			wantOffice(t, told(t, o, 2, transfer(1, owner), 1, 0), want)
		}
	}
}

func TestAnExpiry(t *testing.T) {
	o := told(t, newOffice(t, ferries()...), 1, hold("Ann", 150, family(), 1, 2), 1, 400)
	for _, now := range []int{0, 149, 150} {
		refused(t, o, 2, expire(1, now), impl.AnsState)
	}
	for _, now := range []int{151, 152, impl.MaxTime} {
		then := told(t, o, 2, expire(1, now), 1, 0)
		wantLoads(t, then)
		wantBookings(t, then, impl.Booking{Name: 1, By: 1, Owner: "Ann", Legs: []int{1, 2}, Party: family(), State: impl.StateLapsed, Until: 150, Price: 400})
	}
	first := told(t, newOffice(t, ferries()...), 1, hold("Ann", 0, people(1), 1), 1, 40)
	refused(t, first, 2, expire(1, 0), impl.AnsState)
	told(t, first, 2, expire(1, 1), 1, 0)
	last := told(t, newOffice(t, ferries()...), 1, hold("Ann", impl.MaxTime, people(1), 1), 1, 40)
	refused(t, last, 2, expire(1, impl.MaxTime), impl.AnsState)
}

func TestAManifest(t *testing.T) {
	o := newOffice(t, ferries()...)
	done(t, o, 1, manifest(1), impl.Answer{})
	o = told(t, o, 1, book("Ann", family(), 1, 2, 4), 1, 540)
	o = told(t, o, 2, hold("Bo", 10, people(3), 1), 2, 120)
	o = told(t, o, 3, book("Cy", withCar(people(1), 300, 390), 1), 3, 130)
	o = told(t, o, 4, book("Di", withWhole(people(4), 2), 1), 4, 310)
	o = told(t, o, 5, book("Ed", people(2), 9), 5, 80)
	rows := []impl.Row{
		{Name: 1, Owner: "Ann", People: 2, Lane: 0, Cabin: 0},
		{Name: 2, Owner: "Bo", People: 3, Lane: -1, Cabin: -1},
		{Name: 3, Owner: "Cy", People: 1, Lane: 1, Cabin: -1},
		{Name: 4, Owner: "Di", People: 4, Lane: -1, Cabin: 1},
	}
	wantOffice(t, done(t, o, 6, manifest(1), impl.Answer{Rows: rows}), o)
	done(t, o, 6, manifest(2), impl.Answer{Rows: rows[:1]})
	done(t, o, 6, manifest(4), impl.Answer{Rows: []impl.Row{{Name: 1, Owner: "Ann", People: 2, Lane: 1, Cabin: 0}}})
	done(t, o, 6, manifest(9), impl.Answer{Rows: []impl.Row{{Name: 5, Owner: "Ed", People: 2, Lane: -1, Cabin: -1}}})

	o = told(t, o, 6, amend(1, people(1), 1), 1, 40) // stands behind the others now, its Name ahead
	o = told(t, o, 7, transfer(3, "Zoe"), 3, 0)
	o = told(t, o, 7, expire(2, 11), 2, 0)
	o = told(t, o, 7, cancel(4, 0), 4, 310)
	rows = []impl.Row{{Name: 1, Owner: "Ann", People: 1, Lane: -1, Cabin: -1}, {Name: 3, Owner: "Zoe", People: 1, Lane: 1, Cabin: -1}}
	done(t, o, 7, manifest(1), impl.Answer{Rows: rows})
	done(t, o, 7, manifest(2), impl.Answer{})
	if got, good := impl.ManifestOf(o, 1); !good || !slices.Equal(got, rows) {
		t.Error(got, good)
	}
}

func wantLeft(t *testing.T, o impl.Office, sailing int, lengths, free []int, many int) {
	t.Helper()
	gotLengths, gotFree, gotMany, good := impl.RoomLeft(o, sailing)
	if !good || !slices.Equal(gotLengths, lengths) || !slices.Equal(gotFree, free) || gotMany != many {
		t.Errorf("sailing %d: %v, %v, %d, %v", sailing, gotLengths, gotFree, gotMany, good)
	}
}

func TestWhatIsLeft(t *testing.T) {
	fresh := newOffice(t, ferries()...)
	wantFresh := func(o impl.Office) {
		t.Helper()
		wantLeft(t, o, 1, []int{500, 900}, []int{2, 4, 4}, 20)
		wantLeft(t, o, 2, []int{700}, []int{4, 1}, 12)
		wantLeft(t, o, 4, []int{300, 600}, []int{2, 2}, 8)
		wantLeft(t, o, 9, nil, nil, 3)
	}
	wantFresh(fresh)
	o := told(t, fresh, 1, hold("Ann", 10, family(), 1, 2, 4), 1, 540)
	o = told(t, o, 2, hold("Bo", 10, withWhole(people(4), 1), 1), 2, 250)
	o = told(t, o, 3, hold("Cy", 10, people(3), 9), 3, 120)
	wantLeft(t, o, 1, []int{100, 900}, []int{0, 4, 0}, 14)
	wantLeft(t, o, 2, []int{300}, []int{2, 1}, 10)
	wantLeft(t, o, 4, []int{300, 200}, []int{0, 2}, 6)
	wantLeft(t, o, 9, nil, nil, 0)
	o = told(t, o, 4, cancel(1, 0), 1, 540)
	o = told(t, o, 4, expire(2, 11), 2, 0)
	o = told(t, o, 4, expire(3, 11), 3, 0)
	wantFresh(o)
}

func TestWhatIsGoneMayBeHadAgain(t *testing.T) {
	o := told(t, newOffice(t, ferries()...), 1, hold("Ann", 10, withCar(people(12), 700, 300), 2), 1, 594)
	other := book("Bo", withCar(people(12), 700, 300), 2)
	refused(t, o, 2, other, impl.AnsDeck)
	told(t, told(t, o, 2, cancel(1, 0), 1, 594), 2, other, 2, 594)
	told(t, told(t, o, 2, expire(1, 11), 1, 0), 2, other, 2, 594)
}

func TestWhatIsNotLiveAnyMore(t *testing.T) {
	o := told(t, newOffice(t, ferries()...), 1, hold("Ann", 10, family(), 1), 1, 200)
	for _, gone := range []impl.Office{told(t, o, 2, cancel(1, 0), 1, 200), told(t, o, 2, expire(1, 11), 1, 0)} {
		for _, op := range []impl.Op{confirm(1), amend(1, people(1), 1), cancel(1, 0), transfer(1, "Bo"), expire(1, 9000)} {
			refused(t, gone, 2, op, impl.AnsState)
		}
		next := told(t, gone, 2, book("Bo", family(), 1), 2, 200)
		done(t, next, 3, manifest(1), impl.Answer{Rows: []impl.Row{{Name: 2, Owner: "Bo", People: 2}}})
	}
}

func TestABookedOneDoesNotExpire(t *testing.T) {
	o := told(t, newOffice(t, ferries()...), 1, book("Ann", family(), 1), 1, 200)
	refused(t, o, 2, expire(1, impl.MaxTime), impl.AnsState)
	refused(t, o, 2, confirm(1), impl.AnsState)
	o = told(t, newOffice(t, ferries()...), 1, hold("Ann", 10, family(), 1), 1, 200)
	o = told(t, o, 2, confirm(1), 1, 200)
	refused(t, o, 2, expire(1, 11), impl.AnsState)
}

// The first leg departs at 200, the others later.
func TestRefundsByTheFirstLeg(t *testing.T) {
	o := told(t, newOffice(t, ferries()...), 1, book("Ann", withCar(people(1), 601, 100), 1, 2), 1, 310)
	o.Bookings[0].Price = 311
	for now, refund := range map[int]int{0: 311, 99: 311, 100: 311, 101: 155, 179: 155, 180: 155, 181: 0, 200: 0, 201: 0, 300: 0, impl.MaxTime: 0} {
		then := told(t, o, 2, cancel(1, now), 1, refund)
		if b := then.Bookings[0]; b.Price != 311 || b.State != impl.StateCancelled {
			t.Error(now, b)
		}
	}
	back := told(t, newOffice(t, ferries()...), 1, book("Ann", people(1), 1, 9), 1, 80)
	told(t, back, 2, cancel(1, 150), 1, 40)
	late := sail(3, "Oslo", "Kiel", impl.MaxTime-1, impl.MaxTime)
	late.Most = 1
	o = told(t, newOffice(t, late), 1, book("Ann", people(1), 3), 1, 40)
	told(t, o, 2, cancel(1, 0), 1, 40)
	told(t, o, 2, cancel(1, impl.MaxTime), 1, 0)
	early := sail(3, "Oslo", "Kiel", 0, 1)
	early.Most = 1
	o = told(t, newOffice(t, early), 1, book("Ann", people(1), 3), 1, 40)
	told(t, o, 2, cancel(1, 0), 1, 0)
	told(t, o, 2, cancel(1, impl.MaxTime), 1, 0)
}

// chain is a way of three legs; what each lacks is told by bits: 1 its deck, 2 its cabins, 4 its people.
func chain(lacks ...int) []impl.Sailing {
	places := []string{"Oslo", "Kiel", "Aber", "Bari"}
	var l []impl.Sailing
	for i, lack := range lacks {
		s := sail(i+1, places[i], places[i+1], 10*i, 10*i+10)
		if lack&1 == 0 {
			s.Lanes = []impl.Lane{lane(500, 200)}
		}
		if lack&2 == 0 {
			s.Cabins = []impl.Cabin{cabin(1, 4)}
		}
		if lack&4 == 0 {
			s.Most = 10
		}
		l = append(l, s)
	}
	return l
}

// firstLack goes leg by leg, of each the car, the cabin, the people, as far as the party has them.
func firstLack(p impl.Party, lacks []int) int {
	for _, lack := range lacks {
		switch {
		case hasCar(p) && lack&1 != 0:
			return impl.AnsDeck
		case hasCabin(p) && lack&2 != 0:
			return impl.AnsCabin
		case lack&4 != 0:
			return impl.AnsPeople
		}
	}
	return impl.AnsOk
}

// All ways of three legs with all that each may lack.
func TestTheFirstThatIsLackingLegByLeg(t *testing.T) {
	parties := []impl.Party{people(1), withCar(people(1), 100, 100), withBerths(people(1), 1, 1), withWhole(people(1), 1), everything(), withWhole(withCar(people(1), 100, 100), 1)}
	seen := map[int]int{}
	for bits := range 8 * 8 * 8 {
		lacks := []int{bits & 7, bits >> 3 & 7, bits >> 6}
		o := newOffice(t, chain(lacks...)...)
		for _, p := range parties {
			want := firstLack(p, lacks)
			seen[want]++
			for _, op := range []impl.Op{quote(p, 1, 2, 3), hold("Ann", 5, p, 1, 2, 3), book("Ann", p, 1, 2, 3)} {
				then, a := checkOp(t, o, 1, op)
				if a.Code != want || (want != 0 || op.Kind == impl.OpQuote) && !sameOffice(then, o) {
					t.Fatal(lacks, op, a, then.Loads)
				}
			}
		}
	}
	if seen[impl.AnsOk] == 0 || seen[impl.AnsDeck] == 0 || seen[impl.AnsCabin] == 0 || seen[impl.AnsPeople] == 0 {
		t.Error(seen)
	}
}

func TestAnAmendmentThatTheFirstLackBars(t *testing.T) {
	for bits := range 8 * 8 {
		lacks := []int{0, bits & 7, bits >> 3}
		o := newOffice(t, chain(lacks...)...)
		o = told(t, o, 1, book("Ann", everything(), 1), 1, 130)
		want := firstLack(everything(), lacks)
		then, a := checkOp(t, o, 2, amend(1, everything(), 1, 2, 3))
		if a.Code != want || want != 0 && !sameOffice(then, o) {
			t.Fatal(lacks, a, then)
		}
	}
}

// What fills the last leg is booked by another one; nothing stays placed on the legs ahead.
func TestTheLastOfThreeLegsHasNoRoom(t *testing.T) {
	fresh := newOffice(t, chain(0, 0, 0)...)
	all := book("Ann", withBerths(withCar(people(2), 300, 100), 1, 2), 1, 2, 3)
	for code, filler := range map[int]impl.Party{
		impl.AnsDeck:   withCar(people(1), 201, 100),
		impl.AnsCabin:  withBerths(people(1), 1, 3),
		impl.AnsPeople: people(9),
	} {
		o := checkedBook(t, fresh, 1, filler, 3)
		refused(t, o, 2, all, code)
		wantLoads(t, o, impl.Load{}, impl.Load{}, o.Loads[2])
		refused(t, o, 2, quote(all.Party, 1, 2, 3), code)
		refused(t, o, 2, hold("Ann", 5, all.Party, 1, 2, 3), code)
		wantLeft(t, o, 1, []int{500}, []int{4}, 10)
		wantLeft(t, o, 2, []int{500}, []int{4}, 10)
	}
	for _, filler := range []impl.Party{withCar(people(1), 200, 100), withBerths(people(1), 1, 2), people(8)} {
		told(t, checkedBook(t, fresh, 1, filler, 3), 2, all, 2, 540)
	}
}

func checkedBook(t *testing.T, o impl.Office, by int, p impl.Party, legs ...int) impl.Office {
	t.Helper()
	then, a := checkOp(t, o, by, book("Fay", p, legs...))
	if a.Code != impl.AnsOk {
		t.Fatal(a)
	}
	return then
}

func TestAnAmendmentThatFitsWhereItsOwnIsGone(t *testing.T) {
	fresh := newOffice(t, chain(0, 0, 0)...)
	for what, parties := range map[string][2]impl.Party{
		"the deck":       {withCar(people(1), 300, 100), withCar(people(1), 500, 200)},
		"a whole cabin":  {withBerths(people(1), 1, 1), withWhole(people(1), 1)},
		"all berths":     {withBerths(people(1), 1, 3), withBerths(people(1), 1, 4)},
		"by the berth":   {withWhole(people(4), 1), withBerths(people(4), 1, 4)},
		"the people":     {people(9), people(10)},
		"just the same":  {withWhole(withCar(people(10), 500, 200), 1), withWhole(withCar(people(10), 500, 200), 1)},
		"less of it all": {withWhole(withCar(people(10), 500, 200), 1), people(1)},
	} {
		o := checkedBook(t, fresh, 1, parties[0], 1, 2, 3)
		then, a := checkOp(t, o, 2, amend(1, parties[1], 1, 2, 3))
		want := checkedBook(t, fresh, 2, parties[1], 1, 2, 3)
		if a.Code != impl.AnsOk || a.Price != want.Bookings[0].Price || !sameOffice(then, want) {
			t.Error(what, a, then)
		}
	}
}

func TestAnAmendmentOntoLegsItHadInPart(t *testing.T) {
	fresh := newOffice(t, chain(0, 0, 0)...)
	full := withWhole(withCar(people(10), 500, 200), 1)
	o := checkedBook(t, fresh, 1, full, 1, 2)
	then, a := checkOp(t, o, 2, amend(1, full, 2, 3))
	want := checkedBook(t, fresh, 2, full, 2, 3)
	if a.Code != impl.AnsOk || !sameOffice(then, want) {
		t.Error(a, then)
	}
	wantLeft(t, then, 1, []int{500}, []int{4}, 10)
}

func TestAnAmendmentThatIsRefusedLeavesAllAsItWas(t *testing.T) {
	fresh := newOffice(t, chain(0, 0, 0)...)
	for code, filler := range map[int]impl.Party{
		impl.AnsDeck:   withCar(people(1), 201, 100),
		impl.AnsCabin:  withBerths(people(1), 1, 3),
		impl.AnsPeople: people(9),
	} {
		o := checkedBook(t, fresh, 1, filler, 3)
		o = checkedBook(t, o, 2, everything(), 1, 2)
		o = told(t, o, 3, hold("Ann", 5, everything(), 2), 3, 130)
		refused(t, o, 4, amend(2, withBerths(withCar(people(2), 300, 100), 1, 2), 1, 2, 3), code)
		refused(t, o, 4, amend(3, withBerths(withCar(people(2), 300, 100), 1, 2), 1, 2, 3), code)
	}
}

// The codes one by one, each at an operation that has it alone.
func TestEachCodeAlone(t *testing.T) {
	o := newOffice(t, ferries()...)
	refused(t, o, 1, impl.Op{}, impl.AnsForm)
	refused(t, o, 1, book("", people(1), 1), impl.AnsForm)
	for _, legs := range [][]int{{3}, {2, 1}, {1, 4}, {1, 1}, {0}, {-1}, {1, 2, 9}, {1, 2, 3}} {
		refused(t, o, 1, quote(people(1), legs...), impl.AnsRoute)
		refused(t, o, 1, hold("Ann", 5, people(1), legs...), impl.AnsRoute)
		refused(t, o, 1, book("Ann", people(1), legs...), impl.AnsRoute)
		refused(t, told(t, o, 1, book("Ann", people(1), 1), 1, 40), 2, amend(1, people(1), legs...), impl.AnsRoute)
	}
	for _, id := range []int{0, 3, 5, 99, 100, -1} {
		refused(t, o, 1, manifest(id), impl.AnsRoute)
	}
	for _, op := range []impl.Op{confirm(1), amend(1, people(1), 1), cancel(1, 0), transfer(1, "Bo"), expire(1, 9)} {
		refused(t, o, 1, op, impl.AnsNone)
	}
	one := told(t, o, 1, book("Ann", people(1), 1), 1, 40)
	for _, name := range []int{2, 3, 30} {
		for _, op := range []impl.Op{confirm(name), amend(name, people(1), 1), cancel(name, 0), transfer(name, "Bo"), expire(name, 9)} {
			refused(t, one, 2, op, impl.AnsNone)
		}
	}
	for _, op := range []impl.Op{quote(withCar(people(1), 901, 100), 1), hold("Ann", 5, withCar(people(1), 1, 401), 1), book("Ann", withCar(people(1), 1, 1), 9), amend(1, withCar(people(1), 701, 100), 2)} {
		refused(t, one, 2, op, impl.AnsDeck)
	}
	for _, op := range []impl.Op{quote(withWhole(people(1), 3), 1), hold("Ann", 5, withBerths(people(1), 2, 1), 2), book("Ann", withBerths(people(1), 1, 1), 9), amend(1, withBerths(people(1), 3, 2), 2)} {
		refused(t, one, 2, op, impl.AnsCabin)
	}
	for _, op := range []impl.Op{quote(people(20), 1), hold("Ann", 5, people(13), 2), book("Ann", people(4), 9), amend(1, people(9), 4)} {
		refused(t, one, 2, op, impl.AnsPeople)
	}
}

// wide has room for many bookings on sailing 1; from sailing 2 on there is less and less.
func wide() []impl.Sailing {
	l := chain(0, 0, 0)
	l[0].Most = 500
	return l
}

// fullOffice has MaxBookings bookings on sailing 1: the first live, the second cancelled, the third lapsed.
func fullOffice(t *testing.T, l ...impl.Sailing) impl.Office {
	o := newOffice(t, l...)
	for n := 1; n <= impl.MaxBookings; n++ {
		o = told(t, o, n, hold("Ann", 5, people(1), 1), n, 40)
	}
	o = told(t, o, 100, cancel(2, 0), 2, 0)
	return told(t, o, 100, expire(3, 6), 3, 0)
}

func TestMaxBookingsAndOneMore(t *testing.T) {
	o := fullOffice(t, wide()...)
	refused(t, o, 31, hold("Ann", 5, people(1), 1), impl.AnsFull)
	refused(t, o, 31, book("Ann", people(1), 1, 2, 3), impl.AnsFull)
	refused(t, o, 31, book("Ann", everything(), 3), impl.AnsFull)
	done(t, o, 31, quote(everything(), 1, 2), impl.Answer{Price: 260})
	told(t, o, 31, confirm(30), 30, 40)
	told(t, o, 31, amend(30, everything(), 1, 2, 3), 30, 351)
	told(t, o, 31, transfer(1, "Bo"), 1, 0)
	told(t, o, 31, cancel(30, 0), 30, 0)
	told(t, o, 31, expire(29, 6), 29, 0)
	if rows, good := impl.ManifestOf(o, 1); !good || len(rows) != 28 || rows[1].Name != 4 {
		t.Error(rows, good)
	}
	wantLeft(t, o, 1, []int{500}, []int{4}, 472)
}

// Two codes at once: the one that is looked for first counts.
func TestTwoCodesAtOnce(t *testing.T) {
	o := fullOffice(t, append(wide(), sail(8, "Kiel", "Oslo", 10, 11), sail(9, "Bari", "Oslo", 30, 31))...)
	o.Sailings[3].Most = 5
	gone := 2
	all := everything()
	short := o
	short.Bookings = nil
	short.Loads = make([]impl.Load, len(o.Sailings))
	withName := func(op impl.Op, name int) impl.Op { op.Name = name; return op }
	for what, c := range map[string]struct {
		o    impl.Office
		op   impl.Op
		code int
	}{
		"form and route":            {o, book("no name", people(1), 3, 1), impl.AnsForm},
		"form and route, manifest":  {o, withName(manifest(77), 1), impl.AnsForm},
		"form and none":             {short, amend(1, impl.Party{}, 1), impl.AnsForm},
		"form and none, transfer":   {short, transfer(1, "no name"), impl.AnsForm},
		"form and state":            {o, withName(transfer(gone, ""), gone), impl.AnsForm},
		"form and deck":             {o, book("", withCar(people(1), 501, 1), 1), impl.AnsForm},
		"form and cabin":            {o, book("", withBerths(people(1), 3, 1), 1), impl.AnsForm},
		"form and people":           {o, book("", people(11), 2), impl.AnsForm},
		"form and full":             {o, book("", people(1), 1), impl.AnsForm},
		"route and none":            {short, amend(1, people(1), 3, 1), impl.AnsRoute},
		"route and state":           {o, amend(gone, people(1), 77), impl.AnsRoute},
		"route and deck":            {o, book("Ann", withCar(people(1), 501, 1), 3, 1), impl.AnsRoute},
		"route and cabin":           {o, book("Ann", withBerths(people(1), 3, 1), 3, 1), impl.AnsRoute},
		"route and people":          {o, book("Ann", people(11), 2, 77), impl.AnsRoute},
		"route and full":            {o, book("Ann", people(1), 3, 1), impl.AnsRoute},
		"none and deck":             {short, amend(1, all, 8), impl.AnsNone},
		"none and cabin":            {short, amend(1, withBerths(people(1), 3, 1), 1), impl.AnsNone},
		"none and people":           {short, amend(1, people(20), 2), impl.AnsNone},
		"state and deck":            {o, amend(gone, all, 8), impl.AnsState},
		"state and cabin":           {o, amend(gone, withBerths(people(1), 3, 1), 1), impl.AnsState},
		"state and people":          {o, amend(gone, people(20), 2), impl.AnsState},
		"not held and not behind":   {told(t, o, 99, confirm(1), 1, 40), expire(1, 5), impl.AnsState},
		"deck and cabin":            {o, book("Ann", all, 8), impl.AnsDeck},
		"deck and people":           {o, book("Ann", withCar(people(6), 1, 1), 8), impl.AnsDeck},
		"deck, cabin and people":    {o, book("Ann", all, 9), impl.AnsDeck},
		"deck and full":             {o, hold("Ann", 5, withCar(people(1), 1, 1), 8), impl.AnsDeck},
		"cabin and people":          {o, book("Ann", withBerths(people(6), 1, 1), 8), impl.AnsCabin},
		"cabin and full":            {o, hold("Ann", 5, withBerths(people(1), 1, 1), 8), impl.AnsCabin},
		"people and full":           {o, hold("Ann", 5, people(6), 8), impl.AnsPeople},
		"people on the second leg":  {o, book("Ann", people(11), 1, 2), impl.AnsPeople},
		"people ahead of a deck":    {short, book("Ann", withCar(people(11), 1, 1), 2, 3, 9), impl.AnsPeople},
		"cabin ahead of a deck":     {short, book("Ann", withBerths(withCar(people(1), 1, 1), 3, 1), 1, 8), impl.AnsCabin},
		"full, all having room":     {o, book("Ann", all, 1, 2, 3), impl.AnsFull},
		"amended, with none, short": {short, amend(30, people(1), 1), impl.AnsNone},
	} {
		if _, a := checkOp(t, c.o, 9999, c.op); a.Code != c.code {
			t.Errorf("%s: %d, not %d", what, a.Code, c.code)
		}
	}
}

// What is refused may be asked for again, by the same by.
func TestABooksAfterARefusal(t *testing.T) {
	o := newOffice(t, ferries()...)
	refused(t, o, 5, book("Ann", people(4), 9), impl.AnsPeople)
	o = told(t, o, 5, book("Ann", people(3), 9), 1, 120)
	refused(t, o, 6, book("Bo", people(1), 9), impl.AnsPeople)
	o = told(t, o, 6, amend(1, people(2), 9), 1, 80)
	told(t, o, 5, book("Bo", people(1), 9), 2, 40)
}

func checkAll(t *testing.T, o impl.Office, bys []int, ops []impl.Op) (impl.Office, []impl.Answer, bool) {
	t.Helper()
	then, all, good := impl.DoAll(o, bys, ops)
	thenByWords, allByWords, goodByWords := doAllByWords(o, bys, ops)
	if good != goodByWords || !sameOffice(then, thenByWords) || !slices.EqualFunc(all, allByWords, sameAnswer) {
		t.Fatalf("%v, %+v:\n%+v, %+v, %v, and by the words\n%+v, %+v, %v", bys, ops, then, all, good, thenByWords, allByWords, goodByWords)
	}
	return then, all, good
}

func TestManyInOneCall(t *testing.T) {
	fresh := newOffice(t, ferries()...)
	ops := []impl.Op{
		hold("Ann", 10, family(), 1, 2), quote(family(), 1), manifest(1), confirm(1), book("", people(1), 1), book("Bo", people(3), 9),
		book("Cy", people(1), 9), cancel(2, 0), book("Cy", people(1), 9), transfer(3, "Zoe"), amend(1, people(1), 1), expire(1, 11), manifest(9),
	}
	bys := []int{1, 2, 2, 2, 2, 2, 3, 3, 3, 4, 4, 5, 5}
	then, all, good := checkAll(t, fresh, bys, ops)
	if !good || len(all) != len(ops) {
		t.Fatal(all, good)
	}
	o := fresh
	for i, op := range ops {
		o = done(t, o, bys[i], op, all[i])
	}
	wantOffice(t, then, o)
	none, answers, good := checkAll(t, fresh, nil, nil)
	if !good || len(answers) != 0 {
		t.Error(answers, good)
	}
	wantOffice(t, none, fresh)
}

func TestManyInOneCallOfWhichOneIsNotSo(t *testing.T) {
	fresh := newOffice(t, ferries()...)
	ops := []impl.Op{book("Ann", people(1), 1), quote(people(1), 1), book("Bo", people(1), 1)}
	for _, bys := range [][]int{{1, 2, 1}, {1, 1, 2}, {0, 1, 2}, {1, 0, 2}, {1, 2, 10000}, {1, 2, -1}} {
		if then, all, good := checkAll(t, fresh, bys, ops); good || len(all) != 0 || !sameOffice(then, impl.Office{}) {
			t.Error(bys, then, all, good)
		}
	}
	amended := []impl.Op{book("Ann", people(1), 1), amend(1, people(2), 1), quote(people(1), 1)}
	if _, _, good := checkAll(t, fresh, []int{1, 2, 1}, amended); !good {
		t.Error("a by that no Booking has any more")
	}
	if _, _, good := checkAll(t, fresh, []int{1, 2, 2}, amended); good {
		t.Error("a by that a Booking has now")
	}
}

func manyOps(many int) ([]int, []impl.Op) {
	var bys []int
	var ops []impl.Op
	for i := range many {
		bys = append(bys, i+1)
		ops = append(ops, []impl.Op{hold("Ann", 5, people(1), 1), cancel(i/2+1, 0), manifest(1), {}}[i%4])
	}
	return bys, ops
}

func TestTwoHundredInOneCallAndOneMore(t *testing.T) {
	fresh := newOffice(t, wide()...)
	for many, want := range map[int]bool{1: true, 199: true, 200: true, 201: false, 202: false, 400: false} {
		bys, ops := manyOps(many)
		if _, all, good := checkAll(t, fresh, bys, ops); good != want || good && len(all) != many {
			t.Error(many, len(all), good)
		}
	}
}

func TestBysAndOperationsThatAreNotAsMany(t *testing.T) {
	fresh := newOffice(t, wide()...)
	for _, many := range [][2]int{{0, 1}, {1, 0}, {2, 1}, {1, 2}, {199, 200}, {200, 199}, {201, 200}, {200, 201}} {
		bys, _ := manyOps(many[0])
		_, ops := manyOps(many[1])
		if then, all, good := checkAll(t, fresh, bys, ops); good || len(all) != 0 || !sameOffice(then, impl.Office{}) {
			t.Error(many, all, good)
		}
	}
}

// All ways of three operations out of some on a small office, one behind the other.
func TestSmallHistoriesAllOfThem(t *testing.T) {
	s := sail(1, "Oslo", "Kiel", 50, 60)
	s.Lanes, s.Cabins, s.Most = []impl.Lane{lane(100, 100)}, []impl.Cabin{cabin(1, 2)}, 2
	next := sail(2, "Kiel", "Aber", 60, 70)
	next.Cabins, next.Most = []impl.Cabin{cabin(1, 1)}, 1
	fresh := newOffice(t, s, next)
	ops := []impl.Op{
		hold("Ann", 5, withCar(people(1), 60, 100), 1), hold("Ann", 5, people(1), 1, 2), hold("Bo", 5, withWhole(people(2), 1), 1), book("Cy", withBerths(people(1), 1, 1), 1, 2),
		quote(people(2), 1), quote(withBerths(people(1), 1, 1), 2), confirm(1), confirm(2),
		amend(1, withCar(people(2), 100, 100), 1), amend(1, withBerths(people(1), 1, 1), 2), amend(2, withWhole(people(1), 1), 1, 2), amend(1, people(2), 1, 2),
		cancel(1, 0), cancel(2, 30), transfer(1, "Zoe"), expire(1, 5), expire(1, 6), expire(2, 6), manifest(1), manifest(2), {Kind: impl.OpBook},
	}
	for _, a := range ops {
		first, _ := checkOp(t, fresh, 1, a)
		for _, b := range ops {
			second, _ := checkOp(t, first, 2, b)
			for _, c := range ops {
				third, _ := checkOp(t, second, 3, c)
				for _, id := range []int{1, 2} {
					checkSeen(t, third, id)
				}
			}
		}
	}
}

func checkSeen(t *testing.T, o impl.Office, id int) {
	t.Helper()
	rows, good := impl.ManifestOf(o, id)
	rowsByWords, goodByWords := manifestByWords(o, id)
	lengths, free, many, left := impl.RoomLeft(o, id)
	lengthsByWords, freeByWords, manyByWords, leftByWords := roomLeftByWords(o, id)
	if good != goodByWords || !slices.Equal(rows, rowsByWords) {
		t.Fatal(id, rows, good, rowsByWords, goodByWords)
	}
	if left != leftByWords || !slices.Equal(lengths, lengthsByWords) || !slices.Equal(free, freeByWords) || many != manyByWords {
		t.Fatal(id, lengths, free, many, left)
	}
}

func randomParty(r *rand.Rand) impl.Party {
	p := people(1 + r.Intn(4))
	if r.Intn(2) == 0 {
		p = withCar(p, 50+50*r.Intn(10), 100+50*r.Intn(4))
	}
	switch r.Intn(4) {
	case 0:
		p = withBerths(p, 1+r.Intn(3), 1+r.Intn(3))
	case 1:
		p = withWhole(p, 1+r.Intn(3))
	}
	if r.Intn(60) == 0 {
		p.Berths += 5
	}
	return p
}

// randomOp is good in the most cases, and done in many.
func randomOp(r *rand.Rand, o impl.Office) impl.Op {
	routes := [][]int{{1}, {2}, {4}, {9}, {1, 2}, {2, 4}, {1, 9}, {1, 2, 4}}
	if r.Intn(15) == 0 {
		routes = [][]int{{}, {3}, {2, 1}, {1, 4}, {1, 2, 9}, {1, 2, 4, 9}}
	}
	legs, p := slices.Clone(routes[r.Intn(len(routes))]), randomParty(r)
	owner := []string{"Ann", "Bo", "Cy", "Zoe"}[r.Intn(4)]
	name := 1 + r.Intn(len(o.Bookings)+1)
	now := r.Intn(300)
	op := []impl.Op{quote(p, legs...), hold(owner, r.Intn(300), p, legs...), book(owner, p, legs...), confirm(name), amend(name, p, legs...),
		cancel(name, now), transfer(name, owner), expire(name, now), {Kind: impl.OpManifest, Legs: legs[:min(1, len(legs))]}, book(owner, people(1), 1)}[r.Intn(10)]
	switch r.Intn(80) {
	case 0:
		op.Kind = r.Intn(12) - 1
	case 1:
		op.Now = r.Intn(2) * 10001
	case 2:
		op.Owner = []string{"", "no name"}[r.Intn(2)]
	case 3:
		op.Name = r.Intn(33)
	}
	return op
}

// Histories of many operations, good and bad ones, by bys that are new, old and none.
func TestOfficeHistories(t *testing.T) {
	seen := map[[2]int]int{}
	notSo := 0
	for seed := range int64(60) {
		r := rand.New(rand.NewSource(seed))
		l := ferries()
		l[0].Most += 480 * int(seed%2) // with room for MaxBookings
		o := newOffice(t, l...)
		for range 250 {
			by := r.Intn(400)
			op := randomOp(r, o)
			then, a, good := impl.DoOp(o, by, op)
			checkOp(t, o, by, op)
			if !good {
				notSo++
				continue
			}
			seen[[2]int{op.Kind, a.Code}]++
			o = then
		}
		for _, id := range []int{1, 2, 4, 9, 3} {
			checkSeen(t, o, id)
		}
	}
	for kind := impl.OpQuote; kind <= impl.OpManifest; kind++ {
		codes := []int{impl.AnsOk, impl.AnsForm}
		op := impl.Op{Kind: kind}
		if slices.Contains([]int{impl.OpQuote, impl.OpHold, impl.OpBook, impl.OpAmend}, kind) {
			codes = append(codes, impl.AnsRoute, impl.AnsDeck, impl.AnsCabin, impl.AnsPeople)
		}
		if slices.Contains([]int{impl.OpHold, impl.OpBook}, kind) {
			codes = append(codes, impl.AnsFull)
		}
		if slices.Contains([]int{impl.OpConfirm, impl.OpAmend, impl.OpCancel, impl.OpTransfer, impl.OpExpire}, kind) {
			codes = append(codes, impl.AnsNone, impl.AnsState)
		}
		for _, code := range codes {
			if seen[[2]int{kind, code}] == 0 {
				t.Error("never seen: kind", op.Kind, "code", code)
			}
		}
	}
	if notSo == 0 {
		t.Error("no by was refused")
	}
}

// A booking holds all its legs or none: what stands in the Loads is told by the live Bookings alone.
func TestAllLegsOrNone(t *testing.T) {
	for seed := range int64(40) {
		r := rand.New(rand.NewSource(1000 + seed))
		o := newOffice(t, ferries()...)
		for by := 1; by <= 120; by++ {
			o, _, _ = impl.DoOp(o, by, randomOp(r, o))
			for i, s := range o.Sailings {
				var sails []int
				for _, b := range o.Bookings {
					if liveByWords(b) && slices.Contains(b.Legs, s.Id) {
						sails = append(sails, b.By)
					}
				}
				var seats []int
				for _, x := range o.Loads[i].Seats {
					seats = append(seats, x.By)
				}
				slices.Sort(sails)
				slices.Sort(seats)
				if !slices.Equal(sails, seats) {
					t.Fatal(seed, by, s.Id, sails, seats)
				}
			}
		}
	}
}
