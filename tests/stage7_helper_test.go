package tests

import (
	"fmt"
	"reflect"
	"slices"
	"testing"

	"loop.example/g00084/impl"
)

func quote(p impl.Party, legs ...int) impl.Op {
	return impl.Op{Kind: impl.OpQuote, Legs: legs, Party: p}
}

func hold(owner string, until int, p impl.Party, legs ...int) impl.Op {
	return impl.Op{Kind: impl.OpHold, Owner: owner, Legs: legs, Party: p, Until: until}
}

func book(owner string, p impl.Party, legs ...int) impl.Op {
	return impl.Op{Kind: impl.OpBook, Owner: owner, Legs: legs, Party: p}
}

func confirm(name int) impl.Op { return impl.Op{Kind: impl.OpConfirm, Name: name} }

func amend(name int, p impl.Party, legs ...int) impl.Op {
	return impl.Op{Kind: impl.OpAmend, Name: name, Legs: legs, Party: p}
}

func cancel(name, now int) impl.Op { return impl.Op{Kind: impl.OpCancel, Name: name, Now: now} }

func transfer(name int, owner string) impl.Op {
	return impl.Op{Kind: impl.OpTransfer, Name: name, Owner: owner}
}

func expire(name, now int) impl.Op { return impl.Op{Kind: impl.OpExpire, Name: name, Now: now} }

func manifest(sailing int) impl.Op { return impl.Op{Kind: impl.OpManifest, Legs: []int{sailing}} }

func sameLoads(a, b []impl.Load) bool {
	return slices.EqualFunc(a, b, func(x, y impl.Load) bool {
		return slices.Equal(x.Stays, y.Stays) && slices.Equal(x.Rooms, y.Rooms) && slices.Equal(x.Seats, y.Seats)
	})
}

func sameBookings(a, b []impl.Booking) bool {
	return slices.EqualFunc(a, b, func(x, y impl.Booking) bool {
		return x.Name == y.Name && x.By == y.By && x.Owner == y.Owner && slices.Equal(x.Legs, y.Legs) && x.Party == y.Party &&
			x.State == y.State && x.Until == y.Until && x.Price == y.Price
	})
}

// sameOffice holds the empty list and the nil list for the same.
func sameOffice(a, b impl.Office) bool {
	return sameSailings(a.Sailings, b.Sailings) && sameLoads(a.Loads, b.Loads) && sameBookings(a.Bookings, b.Bookings)
}

func sameAnswer(a, b impl.Answer) bool {
	return a.Code == b.Code && a.Name == b.Name && a.Price == b.Price && slices.Equal(a.Rows, b.Rows)
}

func copyOffice(o impl.Office) impl.Office {
	c := impl.Office{Sailings: copySailings(o.Sailings)}
	for _, l := range o.Loads {
		c.Loads = append(c.Loads, impl.Load{Stays: slices.Clone(l.Stays), Rooms: slices.Clone(l.Rooms), Seats: slices.Clone(l.Seats)})
	}
	for _, b := range o.Bookings {
		b.Legs = slices.Clone(b.Legs)
		c.Bookings = append(c.Bookings, b)
	}
	return c
}

// ferries go from Oslo over Kiel and Aber to Bari, and back from Kiel to Oslo without any lane or cabin.
func ferries() []impl.Sailing {
	first := sail(1, "Oslo", "Kiel", 200, 300)
	first.Lanes, first.Cabins, first.Most = []impl.Lane{lane(500, 200), lane(900, 400)}, []impl.Cabin{cabin(1, 2), cabin(2, 4), cabin(1, 4)}, 20
	second := sail(2, "Kiel", "Aber", 300, 400)
	second.Lanes, second.Cabins, second.Most = []impl.Lane{lane(700, 300)}, []impl.Cabin{cabin(1, 4), cabin(3, 1)}, 12
	third := sail(4, "Aber", "Bari", 450, 600)
	third.Lanes, third.Cabins, third.Most = []impl.Lane{lane(300, 150), lane(600, 400)}, []impl.Cabin{cabin(1, 2), cabin(2, 2)}, 8
	back := sail(9, "Kiel", "Oslo", 350, 500)
	back.Most = 3
	return []impl.Sailing{first, second, third, back}
}

func newOffice(t *testing.T, l ...impl.Sailing) impl.Office {
	t.Helper()
	o, good := impl.NewOffice(l)
	if !good {
		t.Fatal("no office of a good timetable")
	}
	return o
}

// checkOp holds DoOp against the words, and against what promise 7 says of any operation on a good office.
func checkOp(t *testing.T, o impl.Office, by int, op impl.Op) (impl.Office, impl.Answer) {
	t.Helper()
	then, a, good := impl.DoOp(o, by, op)
	thenByWords, aByWords, goodByWords := doOpByWords(o, by, op)
	if good != goodByWords || !sameAnswer(a, aByWords) || !sameOffice(then, thenByWords) {
		t.Fatalf("by %d, %+v:\n%+v, %+v, %v, and by the words\n%+v, %+v, %v", by, op, then, a, good, thenByWords, aByWords, goodByWords)
	}
	if good && !impl.GoodOffice(then) {
		t.Fatalf("by %d, %+v: the office is not good then: %+v", by, op, then)
	}
	if a.Code != impl.AnsOk && (!sameOffice(then, o) || a.Name != 0 || a.Price != 0 || len(a.Rows) > 0) {
		t.Fatalf("by %d, %+v, refused: %+v, %+v", by, op, then, a)
	}
	return then, a
}

// done does an operation that is to have this answer.
func done(t *testing.T, o impl.Office, by int, op impl.Op, want impl.Answer) impl.Office {
	t.Helper()
	then, a := checkOp(t, o, by, op)
	if !sameAnswer(a, want) {
		t.Fatalf("by %d, %+v: %+v, not %+v", by, op, a, want)
	}
	return then
}

// told does an operation that is done with a Name and a Price.
func told(t *testing.T, o impl.Office, by int, op impl.Op, name, price int) impl.Office {
	t.Helper()
	return done(t, o, by, op, impl.Answer{Name: name, Price: price})
}

// refused does an operation that has this code.
func refused(t *testing.T, o impl.Office, by int, op impl.Op, code int) {
	t.Helper()
	done(t, o, by, op, impl.Answer{Code: code})
}

func wantOffice(t *testing.T, got, want impl.Office) {
	t.Helper()
	if !sameOffice(got, want) {
		t.Errorf("the office is\n%+v, not\n%+v", got, want)
	}
}

// wantLoads looks at the Loads from the first on: behind those that are given they are empty.
func wantLoads(t *testing.T, o impl.Office, want ...impl.Load) {
	t.Helper()
	for len(want) < len(o.Sailings) {
		want = append(want, impl.Load{})
	}
	if !sameLoads(o.Loads, want) {
		t.Errorf("the Loads are\n%+v, not\n%+v", o.Loads, want)
	}
}

func wantBookings(t *testing.T, o impl.Office, want ...impl.Booking) {
	t.Helper()
	if !sameBookings(o.Bookings, want) {
		t.Errorf("the Bookings are\n%+v, not\n%+v", o.Bookings, want)
	}
}

// officeAnswers is all that the functions of chapter 7 answer to the same.
type officeAnswers struct {
	New       impl.Office
	NewOk     bool
	Good      bool
	GoodOp    bool
	Then      impl.Office
	Answer    impl.Answer
	Done      bool
	ThenAll   impl.Office
	Answers   []impl.Answer
	DoneAll   bool
	Rows      []impl.Row
	RowsOk    bool
	Lengths   []int
	Berths    []int
	People    int
	RoomOk    bool
	NoneThen  impl.Office
	NoneGiven []impl.Answer
	NoneDone  bool
}

// askOffice does the one operation by the by, then all of ops by the bys.
func askOffice(o impl.Office, by int, op impl.Op, bys []int, ops []impl.Op, sailing int) officeAnswers {
	var r officeAnswers
	r.New, r.NewOk = impl.NewOffice(o.Sailings)
	r.Good, r.GoodOp = impl.GoodOffice(o), impl.GoodOp(op)
	r.Then, r.Answer, r.Done = impl.DoOp(o, by, op)
	r.ThenAll, r.Answers, r.DoneAll = impl.DoAll(o, bys, ops)
	r.NoneThen, r.NoneGiven, r.NoneDone = impl.DoAll(o, nil, nil)
	r.Rows, r.RowsOk = impl.ManifestOf(o, sailing)
	r.Lengths, r.Berths, r.People, r.RoomOk = impl.RoomLeft(o, sailing)
	return r
}

func officeByWords(o impl.Office, by int, op impl.Op, bys []int, ops []impl.Op, sailing int) officeAnswers {
	var r officeAnswers
	r.New, r.NewOk = newOfficeByWords(o.Sailings)
	r.Good, r.GoodOp = goodOfficeByWords(o), goodOpByWords(op)
	r.Then, r.Answer, r.Done = doOpByWords(o, by, op)
	r.ThenAll, r.Answers, r.DoneAll = doAllByWords(o, bys, ops)
	r.NoneThen, r.NoneGiven, r.NoneDone = doAllByWords(o, nil, nil)
	r.Rows, r.RowsOk = manifestByWords(o, sailing)
	r.Lengths, r.Berths, r.People, r.RoomOk = roomLeftByWords(o, sailing)
	return r
}

// inWords writes any value down; the empty list and the nil list are the same there.
func inWords(v any) string { return fmt.Sprintf("%+v", v) }

func checkOffice(t *testing.T, what string, o impl.Office, by int, op impl.Op, bys []int, ops []impl.Op, sailing int) officeAnswers {
	t.Helper()
	got, want := askOffice(o, by, op, bys, ops, sailing), officeByWords(o, by, op, bys, ops, sailing)
	if inWords(got) != inWords(want) {
		t.Fatalf("%s:\n%+v\nby %d, %+v, sailing %d:\n%+v, and by the words\n%+v", what, o, by, op, sailing, got, want)
	}
	return got
}

// span is the memory of one list, with the room behind it.
type span struct{ from, to uintptr }

// spansOf are the memory of all lists in a value, those in lists too.
func spansOf(v reflect.Value) []span {
	var all []span
	switch v.Kind() {
	case reflect.Struct:
		for i := range v.NumField() {
			all = append(all, spansOf(v.Field(i))...)
		}
	case reflect.Slice:
		if v.Cap() > 0 {
			all = append(all, span{v.Pointer(), v.Pointer() + uintptr(v.Cap())*v.Type().Elem().Size()})
		}
		for i := range v.Len() {
			all = append(all, spansOf(v.Index(i))...)
		}
	}
	return all
}

// wantApart asks that no two lists of an answer share memory, and none with a list of an argument.
func wantApart(t *testing.T, what string, answer any, arguments ...any) {
	t.Helper()
	mine := spansOf(reflect.ValueOf(answer))
	var given []span
	for _, a := range arguments {
		given = append(given, spansOf(reflect.ValueOf(a))...)
	}
	for i, s := range mine {
		for _, o := range append(slices.Clone(mine[:i]), given...) {
			if s.from < o.to && o.from < s.to {
				t.Fatalf("%s: memory is shared in %+v", what, answer)
			}
		}
	}
}

// roomy is a copy of a value in which each list has room behind it, filled with junk.
func roomy[V any](v V, junk int) V {
	c := reflect.New(reflect.TypeOf(v)).Elem()
	c.Set(copyWithRoom(reflect.ValueOf(v), junk))
	return c.Interface().(V)
}

func copyWithRoom(v reflect.Value, junk int) reflect.Value {
	c := reflect.New(v.Type()).Elem()
	c.Set(v)
	switch v.Kind() {
	case reflect.Struct:
		for i := range v.NumField() {
			c.Field(i).Set(copyWithRoom(v.Field(i), junk))
		}
	case reflect.Slice:
		room := reflect.MakeSlice(v.Type(), v.Len()+3, v.Len()+3)
		for i := range v.Len() {
			room.Index(i).Set(copyWithRoom(v.Index(i), junk))
		}
		for i := v.Len(); i < room.Len(); i++ {
			fillWithJunk(room.Index(i), v, junk)
		}
		c.Set(room.Slice(0, v.Len()))
	}
	return c
}

// fillWithJunk fills with what the list has already, as if it went on, or with the number.
func fillWithJunk(v, list reflect.Value, junk int) {
	if junk == 0 && list.Len() > 0 {
		v.Set(copyWithRoom(list.Index(0), junk))
		return
	}
	switch v.Kind() {
	case reflect.Struct:
		for i := range v.NumField() {
			fillWithJunk(v.Field(i), reflect.MakeSlice(reflect.TypeFor[[]int](), 0, 0), junk)
		}
	case reflect.Int:
		v.SetInt(int64(junk))
	case reflect.String:
		v.SetString("junk")
	case reflect.Bool:
		v.SetBool(true)
	}
}

// allIn writes a value down with the room behind its lists.
func allIn(v any) string {
	return inWords(stretched(reflect.ValueOf(v)).Interface())
}

func stretched(v reflect.Value) reflect.Value {
	c := reflect.New(v.Type()).Elem()
	c.Set(v)
	switch v.Kind() {
	case reflect.Struct:
		for i := range v.NumField() {
			c.Field(i).Set(stretched(v.Field(i)))
		}
	case reflect.Slice:
		long := v.Slice(0, v.Cap())
		all := reflect.MakeSlice(v.Type(), long.Len(), long.Len())
		for i := range long.Len() {
			all.Index(i).Set(stretched(long.Index(i)))
		}
		c.Set(all)
	}
	return c
}

// eachChange makes one small change after the other to what stands behind a pointer, and takes it back: every number, text and bool in it, every list shorter, longer, turned round and gone.
func eachChange(v reflect.Value, what string, numbers []int, texts []string, do func(what string)) {
	try := func(n reflect.Value, how string) {
		was := reflect.New(v.Type()).Elem()
		was.Set(v)
		v.Set(n.Convert(v.Type()))
		do(fmt.Sprint(what, " ", how))
		v.Set(was)
	}
	switch v.Kind() {
	case reflect.Struct:
		for i := range v.NumField() {
			eachChange(v.Field(i), what+"."+v.Type().Field(i).Name, numbers, texts, do)
		}
	case reflect.Int:
		was := int(v.Int())
		for _, n := range append([]int{was - 1, was + 1, -was}, numbers...) {
			try(reflect.ValueOf(n), fmt.Sprint("is ", n))
		}
	case reflect.String:
		for _, s := range texts {
			try(reflect.ValueOf(s), "is "+s)
		}
	case reflect.Bool:
		try(reflect.ValueOf(!v.Bool()), "is turned")
	case reflect.Slice:
		for i := range v.Len() {
			eachChange(v.Index(i), fmt.Sprintf("%s[%d]", what, i), numbers, texts, do)
		}
		eachList(v, try)
	}
}

func eachList(v reflect.Value, try func(n reflect.Value, how string)) {
	try(reflect.Zero(v.Type()), "is gone")
	try(reflect.Append(v.Slice3(0, v.Len(), v.Len()), reflect.Zero(v.Type().Elem())), "has an empty one more")
	for i := range v.Len() {
		try(reflect.AppendSlice(v.Slice3(0, i, i), v.Slice(i+1, v.Len())), fmt.Sprint("is without ", i))
		try(reflect.Append(v.Slice3(0, v.Len(), v.Len()), v.Index(i)), fmt.Sprint("has twice ", i))
	}
	turned := reflect.MakeSlice(v.Type(), 0, v.Len())
	for i := v.Len() - 1; i >= 0; i-- {
		turned = reflect.Append(turned, v.Index(i))
	}
	try(turned, "is turned round")
}
