package tests

import (
	"fmt"
	"math/rand"
	"slices"
	"strings"
	"testing"

	"loop.example/g00084/impl"
)

const osloKiel = "sail 1 Oslo Kiel 200 300 5 500/200 -"
const kielAber = "sail 2 Kiel Aber 300 400 12 700/300 1/4,3/1"

func TestOneBookingByLines(t *testing.T) {
	wantScript(t,
		osloKiel, "ok",
		"new book Ann 1 2+400/150", "slot 0",
		"run 0", "ok",
		"ready", "ready 0",
		"done", "done",
		"answer 1", "none",
		"see 1", "rows",
		"left 1", "left 500 ; ; 5",
		"finish", "steps 5",
		"ready", "ready",
		"done", "done 1:0",
		"answer 1", "0 1 140",
		"see 1", "rows; 1 Ann 2 0 -1",
		"left 1", "left 100 ; ; 3",
		"fly", "what",
	)
}

func TestSailLines(t *testing.T) {
	wantScript(t, osloKiel, "ok", kielAber, "ok", "see 1", "rows", "see 2", "rows", "see 3", "none")
	// Behind another line it is one that there is not.
	wantScript(t, osloKiel, "ok", "ready", "ready", kielAber, "what", "see 1", "rows", "see 2", "none", "sail", "what", osloKiel, "what")
	wantScript(t, "ready", "ready", osloKiel, "what", "see 1", "none")
	// A timetable rises by Id.
	wantScript(t, kielAber, "ok", osloKiel, "no", kielAber, "no", "sail 3 Aber Kiel 1 2 3 - -", "ok", "see 1", "none", "see 2", "rows", "see 3", "rows")
	// What is refused changes nothing, and opens nothing.
	wantScript(t, "sail 0 Oslo Kiel 200 300 5 - -", "no", "sail 1 Oslo Oslo 200 300 5 - -", "no", "sail", "no", "sail ", "no", "sail  1 Oslo Kiel 200 300 5 - -", "no", "sail 1 Oslo Kiel 200 300 5 - - ", "no", "sail x", "no", "sail \xff", "no", osloKiel, "ok", "left 1", "left 500 ; ; 5")
	six := []string{}
	for id := 1; id <= 6; id++ {
		six = append(six, fmt.Sprintf("sail %d Oslo Kiel 1 2 %d - -", id, id), "ok")
	}
	six = append(six, "sail 7 Oslo Kiel 1 2 3 - -", "no", "sail 6 Oslo Kiel 1 2 3 - -", "no", "left 6", "left ; ; 6", "left 7", "none")
	wantScript(t, six...)
}

// The first line that is no `sail` opens the office, be it right or wrong.
func TestFirstLinesThatAreWrong(t *testing.T) {
	for _, line := range []string{"", " ", "fly", " sail", " " + osloKiel, "Sail 1", "sails", "sail1", "sail\t1", "SAIL", "sai", "\xff", "\x00", "run", "run 0 0", "new", "new fly", "see", "what", "ok"} {
		wantScript(t, line, "what", osloKiel, "what", "see 1", "none")
		wantScript(t, osloKiel, "ok", line, "what", kielAber, "what", "see 1", "rows", "see 2", "none")
	}
	for line, answer := range map[string]string{"run 0": "none", "abort 0": "none", "ready": "ready", "finish": "steps 0", "done": "done", "answer 1": "none", "see 1": "none", "left 1": "none", "new confirm 1": "slot 0"} {
		wantScript(t, line, answer, osloKiel, "what", "left 1", "none")
	}
}

func TestSubmissionsByLines(t *testing.T) {
	lines := []string{osloKiel, "ok"}
	for slot := range 12 {
		lines = append(lines, "new quote 1 1", fmt.Sprint("slot ", slot))
	}
	lines = append(lines,
		"new quote 1 1", "full", "new confirm 1", "full", "ready", "ready 0 1 2 3 4 5 6 7 8 9 10 11",
		"abort 7", "ok", "abort 3", "ok", "abort 3", "none", "run 7", "none", "ready", "ready 0 1 2 4 5 6 8 9 10 11",
		"new quote 1 2", "slot 3", "new quote 1 2", "slot 7", "new quote 1 2", "full",
		"run 11", "ok", "run 12", "none", "abort 12", "none", "run 99999", "none", "abort 99999", "none",
		"finish", "steps 71", "done", "done 1:0 2:0 3:0 4:0 5:0 6:0 7:0 8:0 9:0 10:0 11:0 12:0",
		"answer 1", "0 0 40", "answer 4", "0 0 80", "answer 8", "0 0 80", "answer 12", "0 0 40", "answer 13", "none", "answer 0", "none", "answer 99999", "none",
		"new quote 1 2", "slot 0",
	)
	wantScript(t, lines...)
	// Of operations that are none nothing is submitted.
	wantScript(t, osloKiel, "ok", "new", "what", "new ", "what", "new  quote 1 1", "what", "new quote 1 1 ", "what", "new quote 1 0", "what", "new quote -1 1", "what", "new confirm 31", "what", "new new quote 1 1", "what", "quote 1 1", "what", "ready", "ready", "new quote 77 1", "slot 0")
}

func TestOperationsOfEachKindByLines(t *testing.T) {
	wantScript(t,
		osloKiel, "ok", kielAber, "ok",
		"new quote 1,2 3+100/100@1x2", "slot 0", "finish", "steps 11",
		"new hold Ann 1,2 1+100/150 40", "slot 0", "finish", "steps 10",
		"new book Bo 2 2@1", "slot 0", "finish", "steps 6",
		"new confirm 1", "slot 0", "finish", "steps 3",
		"new amend 2 2 3@3x1", "slot 0", "finish", "steps 9",
		"new transfer 2 Cy", "slot 0", "finish", "steps 3",
		"new hold Di 2 1 30", "slot 0", "finish", "steps 4",
		"new manifest 2", "slot 0", "finish", "steps 5",
		"new expire 3 31", "slot 0", "finish", "steps 5",
		"new cancel 1 150", "slot 0", "finish", "steps 11",
		"new manifest 2", "slot 0", "finish", "steps 5",
		"done", "done 1:6 2:0 3:0 4:0 5:0 6:0 7:0 8:0 9:0 10:0 11:0",
		"answer 1", "6 0 0",
		"answer 2", "0 1 200",
		"answer 3", "0 2 170",
		"answer 4", "0 1 200",
		"answer 5", "0 2 200",
		"answer 6", "0 2 0",
		"answer 7", "0 3 40",
		"answer 8", "0 0 0; 1 Ann 1 0 -1; 2 Cy 3 -1 1; 3 Di 1 -1 -1",
		"answer 9", "0 3 0",
		"answer 10", "0 1 100",
		"answer 11", "0 0 0; 2 Cy 3 -1 1",
		"see 1", "rows",
		"see 2", "rows; 2 Cy 3 -1 1",
		"left 1", "left 500 ; ; 5",
		"left 2", "left 700 ; 4 0 ; 9",
	)
}

// Each code of chapter 7 is told; AnsForm never, since no such operation has a text.
func TestCodesByLines(t *testing.T) {
	lines := []string{"sail 1 Oslo Kiel 200 300 40 500/200 1/1", "ok"}
	for range 5 {
		lines = append(lines, "new book Ann 1 1", "slot 0", "new book Ann 1 1", "slot 1", "new book Ann 1 1", "slot 2", "new book Ann 1 1", "slot 3", "new book Ann 1 1", "slot 4", "new book Ann 1 1", "slot 5", "finish", "steps 24")
	}
	lines = append(lines,
		"new book Ann 1 1", "slot 0", "new quote 2 1", "slot 1", "new confirm 1", "slot 2", "new quote 1 1+501/1", "slot 3", "new quote 1 1@2", "slot 4", "new quote 1 11", "slot 5", "new expire 30 1", "slot 6", "finish", "steps 25",
		"answer 31", "8 0 0", "answer 32", "2 0 0", "answer 33", "4 0 0", "answer 34", "5 0 0", "answer 35", "6 0 0", "answer 36", "7 0 0", "answer 37", "4 0 0", "answer 38", "none",
	)
	wantScript(t, lines...)
	wantScript(t, osloKiel, "ok", "new confirm 1", "slot 0", "new manifest 2", "slot 1", "finish", "steps 3", "done", "done 1:3 2:2", "answer 1", "3 0 0", "answer 2", "2 0 0")
}

func TestWaitingByLines(t *testing.T) {
	wantScript(t,
		osloKiel, "ok",
		"new book Ann 1 3", "slot 0", "new book Bo 1 3", "slot 1", "new manifest 1", "slot 2",
		"run 0", "ok", "run 0", "ok", "run 1", "ok", "ready", "ready 0 1 2", "run 1", "ok", "ready", "ready 0 2",
		"run 1", "waits", "run 1", "waits", "run 2", "ok", "run 2", "ok", "run 2", "ok", "run 2", "ok", "run 2", "waits", "ready", "ready 0",
		"run 0", "ok", "see 1", "rows", "left 1", "left 500 ; ; 2",
		"abort 0", "ok", "ready", "ready 1", "left 1", "left 500 ; ; 5", "run 2", "waits",
		"run 1", "ok", "run 1", "ok", "run 1", "none", "ready", "ready 2", "done", "done 1:0", "answer 1", "0 1 120",
		"run 2", "ok", "done", "done 1:0 2:0", "answer 2", "0 0 0; 1 Bo 3 -1 -1", "ready", "ready", "finish", "steps 0",
	)
	// A task that waits may be aborted, and what was done is not.
	wantScript(t,
		osloKiel, "ok", "new book Ann 1 1", "slot 0", "new book Bo 1 1", "slot 1", "run 0", "ok", "run 0", "ok", "run 1", "ok", "run 1", "ok", "run 1", "waits",
		"abort 1", "ok", "abort 1", "none", "run 0", "ok", "run 0", "ok", "abort 0", "none", "ready", "ready", "see 1", "rows; 1 Ann 1 -1 -1", "done", "done 1:0",
	)
}

// A Booking that is being amended has no lane and no cabin until it is done, though the Loads have what tasks hold.
func TestWhatIsSeenWhileTasksWork(t *testing.T) {
	wantScript(t,
		"sail 1 Oslo Kiel 200 300 9 500/200,600/300 1/2,2/4", "ok",
		"new book Ann 1 2+400/150@1x1", "slot 0", "finish", "steps 8",
		"see 1", "rows; 1 Ann 2 0 0", "left 1", "left 100 600 ; 1 4 ; 7",
		"new amend 1 1 3+550/250@2", "slot 0", "run 0", "ok", "run 0", "ok", "run 0", "ok", "run 0", "ok", "run 0", "ok",
		"see 1", "rows; 1 Ann 2 0 0", "run 0", "ok",
		"see 1", "rows; 1 Ann 2 -1 0", "left 1", "left 500 600 ; 1 4 ; 7", "run 0", "ok",
		"see 1", "rows; 1 Ann 2 -1 -1", "left 1", "left 500 600 ; 2 4 ; 7", "run 0", "ok",
		"see 1", "rows; 1 Ann 2 -1 -1", "left 1", "left 500 600 ; 2 4 ; 9", "run 0", "ok",
		"left 1", "left 500 50 ; 2 4 ; 9", "run 0", "ok", "left 1", "left 500 50 ; 2 0 ; 9", "run 0", "ok",
		"see 1", "rows; 1 Ann 2 -1 -1", "left 1", "left 500 50 ; 2 0 ; 6", "run 0", "ok",
		"see 1", "rows; 1 Ann 3 1 1", "left 1", "left 500 50 ; 2 0 ; 6", "run 0", "none", "answer 2", "0 1 390",
		"new cancel 1 0", "slot 0", "run 0", "ok", "run 0", "ok", "run 0", "ok", "run 0", "ok", "run 0", "ok", "run 0", "ok", "run 0", "ok",
		"see 1", "rows; 1 Ann 3 -1 -1", "left 1", "left 500 600 ; 2 4 ; 6", "abort 0", "ok",
		"see 1", "rows; 1 Ann 3 1 1", "left 1", "left 500 50 ; 2 0 ; 6",
	)
	// A quote and a hold stand in the Loads, but not among the rows.
	wantScript(t,
		"sail 1 Oslo Kiel 200 300 9 500/200 1/2", "ok", "new quote 1 4+100/100@1x2", "slot 0",
		"run 0", "ok", "run 0", "ok", "run 0", "ok", "run 0", "ok", "run 0", "ok", "run 0", "ok", "left 1", "left 400 ; 0 ; 9", "run 0", "ok", "left 1", "left 400 ; 0 ; 5", "see 1", "rows",
		"run 0", "ok", "run 0", "ok", "left 1", "left 400 ; 0 ; 9", "run 0", "ok", "run 0", "ok", "left 1", "left 500 ; 2 ; 9", "done", "done", "run 0", "ok", "answer 1", "0 0 280", "run 0", "none",
	)
}

func TestLeftOfManyLanesAndCabins(t *testing.T) {
	wantScript(t,
		"sail 1 Oslo Kiel 1 2 500 1/100,20/200,300/300,4000/400 1/1,2/2,3/3,1/4,2/1,3/2", "ok", "sail 2 Kiel Oslo 1 2 0 - -", "ok", "sail 3 Kiel Oslo 1 2 7 - 1/1", "ok", "sail 4 Kiel Oslo 1 2 7 1/100 -", "ok",
		"left 1", "left 1 20 300 4000 ; 1 2 3 4 1 2 ; 500", "left 2", "left ; ; 0", "left 3", "left ; 1 ; 7", "left 4", "left 1 ; ; 7",
		"left 0", "none", "left 5", "none", "left 99999", "none", "see 0", "none", "see 5", "none", "see 99999", "none", "see 4", "rows",
	)
}

func TestLinesThatAreWhat(t *testing.T) {
	wrong := []string{"", " ", "  ", "fly", "what", "none", "slot 0", "\x00", "\xff", "\r", "\t", "ready\r", "é", "1", "-", "New quote 1 1", "NEW quote 1 1", "newquote 1 1", "news quote 1 1"}
	for _, word := range []string{"ready", "finish", "done"} {
		wrong = append(wrong, word+" ", " "+word, word+" 0", word+"  ", word+"s", word[1:], strings.ToUpper(word), word+"\xff", word+"\x00", word+" "+word)
	}
	for _, word := range []string{"run", "abort", "answer", "see", "left"} {
		for _, number := range []string{"", " ", "00", "01", "-1", "-0", "+1", "100000", "000001", "999999", "4294967296", "18446744073709551616", "x", "0x1", "1e0", "1.", "1 ", " 1", "1 1", "1,1", "1/1", "\xff", "1\xff", "\u0661", "\uff11", "Ann", "-", "--1"} {
			wrong = append(wrong, word+" "+number)
		}
		wrong = append(wrong, word, word+"1", word+"  1", word+"\t1", " "+word+" 1", strings.ToUpper(word)+" 1", word[1:]+" 1", word+"s 1", word+"\u00a01")
	}
	for part := range slices.Chunk(wrong, 80) {
		lines := []string{osloKiel, "ok", "new book Ann 1 1", "slot 0", "finish", "steps 4", "new book Bo 1 2", "slot 0", "new cancel 1 0", "slot 1"}
		for _, line := range part {
			lines = append(lines, line, "what")
		}
		wantScript(t, append(lines, "ready", "ready 0 1", "done", "done 1:0", "see 1", "rows; 1 Ann 1 -1 -1")...)
	}
}

func TestTextsThatAreNoScript(t *testing.T) {
	for _, text := range []string{
		"x", "ready", "ready\n ", "ready\nready", "\n\n ", " ", "\x00", "\xff", "ready\r", "\nx", osloKiel, osloKiel + "\nready", osloKiel + "\n" + osloKiel,
		strings.Repeat("x", 3999), strings.Repeat("x", 4000), strings.Repeat("x", 4001), strings.Repeat("x", 100000),
		strings.Repeat("x", 4000) + "\n", strings.Repeat("x", 5000) + "\n", strings.Repeat("ready\n", 100000), strings.Repeat("\n", 4000),
		strings.Repeat("\n", 201), strings.Repeat("\n", 202), strings.Repeat("\n", 200) + "x", strings.Repeat("\n", 199) + "x", strings.Repeat("ready\n", 201), strings.Repeat("ready\n", 200) + "ready",
		osloKiel + strings.Repeat("\n", 201),
	} {
		wantNoScript(t, text)
	}
}

func TestScriptsAtTheirLimits(t *testing.T) {
	for text, want := range map[string]string{
		"":                                 "",
		"\n":                               "what\n",
		strings.Repeat("x", 3998) + "\n":   "what\n",
		strings.Repeat("x", 3999) + "\n":   "what\n",
		strings.Repeat("\n", 199):          strings.Repeat("what\n", 199),
		strings.Repeat("\n", 200):          strings.Repeat("what\n", 200),
		strings.Repeat("ready\n", 200):     strings.Repeat("ready\n", 200),
		strings.Repeat("run 12345\n", 200): strings.Repeat("none\n", 200),
		strings.Repeat("new cancel 12 10000\n", 200): "slot 0\nslot 1\nslot 2\nslot 3\nslot 4\nslot 5\nslot 6\nslot 7\nslot 8\nslot 9\nslot 10\nslot 11\n" + strings.Repeat("full\n", 188),
	} {
		if told := impl.RunDesk(text); told != want {
			t.Errorf("%q: %q, not %q", text, told, want)
		}
		wantLastOffice(t, text, impl.Office{})
	}
	// Both limits are met by the last one above.
	if both := strings.Repeat("new cancel 12 10000\n", 200); len(both) != 4000 {
		t.Error(len(both))
	}
	wantNoScript(t, strings.Repeat("new cancel 12 10000\n", 199)+"new transfer 12 Annab\n")
	wantNoScript(t, strings.Repeat("new cancel 12 10000\n", 200)+"\n")
}

// Each line is one move at most: MaxLines lines count no more than half of MaxMoves, and the steps of a finish do not count. So no move is refused for being one too many, however many steps there were.
func TestMovesThatCount(t *testing.T) {
	lines := []string{"sail 1 Oslo Kiel 0 10 99 999/200 1/4", "ok", "sail 2 Kiel Aber 10 20 99 999/200 1/4", "ok", "sail 3 Aber Bari 20 30 99 999/200 1/4", "ok"}
	for range 4 {
		for slot := range 12 {
			lines = append(lines, "new quote 1,2,3 1+1/1@1x1", fmt.Sprint("slot ", slot))
		}
		lines = append(lines, "finish", "steps 360")
	}
	for len(lines) < 2*196 {
		lines = append(lines, "new confirm 1", "slot 0", "run 0", "ok", "abort 0", "ok")
	}
	lines = append(lines, "new confirm 1", "slot 0", "run 0", "ok", "run 0", "ok", "run 0", "none")
	wantScript(t, lines[:2*200]...)
	only := []string{}
	for range 100 {
		only = append(only, "new confirm 1", "slot 0", "abort 0", "ok")
	}
	wantScript(t, only...)
}

func TestLastOfficeOfSailings(t *testing.T) {
	wantLastOffice(t, "", impl.Office{})
	wantLastOffice(t, script("ready"), impl.Office{})
	wantLastOffice(t, script("fly", osloKiel), impl.Office{})
	first, _ := readSailByWords(osloKiel)
	second, _ := readSailByWords(kielAber)
	// None was opened.
	wantLastOffice(t, script(osloKiel), newOffice(t, first))
	wantLastOffice(t, script(osloKiel, kielAber), newOffice(t, first, second))
	wantLastOffice(t, script(kielAber, osloKiel), newOffice(t, second))
	wantLastOffice(t, script("sail", "sail x"), impl.Office{})
	// One was.
	wantLastOffice(t, script(osloKiel, "ready", kielAber), newOffice(t, first))
	wantLastOffice(t, script(osloKiel, ""), newOffice(t, first))
	wantLastOffice(t, script(sailLines(t, ferries()...)...), newOffice(t, ferries()...))
	wantNoScript(t, script(osloKiel)+"x")
	wantNoScript(t, osloKiel)
}

func TestLastOfficeWithTasksAtWork(t *testing.T) {
	l := ferries()
	start := newOffice(t, l...)
	lines := append(sailLines(t, l...), newLine(t, book("Ann", family(), 1, 2)))
	for range 14 {
		wantLastOffice(t, script(lines...), start)
		lines = append(lines, "run 0")
	}
	wantLastOffice(t, script(lines...), told(t, start, 5000, book("Ann", family(), 1, 2), 1, 400))
}

// Tasks in each stage are aborted, and what was done stays.
func TestLastOfficeOfManyTasks(t *testing.T) {
	l := ferries()
	lines := append(sailLines(t, l...), newLine(t, book("Ann", family(), 1, 2)), newLine(t, hold("Bo", 40, withWhole(people(2), 2), 1)), "finish")
	finished, good := impl.LastOffice(script(lines...))
	if !good || len(finished.Bookings) != 2 {
		t.Fatal(finished, good)
	}
	work := []string{
		newLine(t, amend(1, everything(), 1, 2, 4)), newLine(t, cancel(2, 0)), newLine(t, book("Cy", people(3), 9)), newLine(t, quote(everything(), 4)), newLine(t, manifest(9)), newLine(t, transfer(1, "Zoe")),
	}
	r := rand.New(rand.NewSource(11))
	for range 60 {
		all := slices.Concat(lines, work)
		left := []int{20, 6, 3, 11, 4, 2} // of each slot: one step more, and it may be done
		for range r.Intn(40) {
			if slot := r.Intn(len(left)); left[slot] > 0 {
				left[slot]--
				all = append(all, fmt.Sprint("run ", slot))
			}
		}
		wantLastOffice(t, script(all...), finished)
	}
	all := slices.Concat(lines, work[:2], []string{"abort 0", "finish", work[0], "run 0", "run 0", "run 0", work[2], "run 1"})
	wantLastOffice(t, script(all...), told(t, finished, 5003, cancel(2, 0), 2, 230))
}

// randomLine is a line of any kind; of most kinds one that may be done.
func randomLine(r *rand.Rand, s scriptInWords, ops []string) string {
	slot := r.Intn(13)
	if many := len(s.desk.Tasks); many > 0 && r.Intn(20) > 0 {
		slot = s.desk.Tasks[r.Intn(many)].Slot
	}
	switch n := r.Intn(100); {
	case n < 10 || len(s.desk.Tasks) < 3 && n < 50:
		return "new " + ops[r.Intn(len(ops))]
	case n < 72:
		return fmt.Sprint("run ", slot)
	case n < 73:
		return fmt.Sprint("abort ", slot)
	case n < 76:
		return "ready"
	case n < 78:
		return "finish"
	case n < 82:
		return "done"
	case n < 88:
		return fmt.Sprint("answer ", r.Intn(len(s.desk.Done)+2))
	case n < 92:
		return fmt.Sprint("see ", r.Intn(6))
	case n < 97:
		return fmt.Sprint("left ", r.Intn(6))
	}
	return []string{"", "fly", "run", "see x", "sail 9 Oslo Kiel 1 2 3 - -", "new fly", "ready ", "\xff"}[r.Intn(8)]
}

func randomScript(r *rand.Rand, most int) string {
	ops := []string{
		"quote 1 2", "quote 1,2,4 1+50/100@1x1", "hold Ann 1 1 40", "hold Bo 2 1@1 30", "book Cy 1,2 2+200/150@1x2", "book Di 1 3+400/150", "book Ed 1 2@2", "book Fay 1 1+500/200", "book Hal 1 1+900/400", "quote 1 1+901/100", "book Gus 2 9", "quote 1 20", "confirm 1", "confirm 2",
		"amend 1 2 2", "amend 2 1,2 1+100/100@1x1", "amend 1 1 4+250/200@1", "cancel 1 0", "cancel 2 150", "transfer 1 Zoe", "transfer 3 Yan", "expire 1 41", "expire 2 9000", "manifest 1", "manifest 2", "manifest 3",
	}
	var s scriptInWords
	text := ""
	put := func(line string) {
		if len(text)+len(line) < 4000 {
			s.line(line)
			text += line + "\n"
		}
	}
	for _, sailing := range ferries()[:2+r.Intn(2)] {
		line, _ := sailTextByWords(sailing)
		put(line)
	}
	for range r.Intn(most) {
		put(randomLine(r, s, ops))
	}
	return text
}

func TestDrawnScriptsAgainstTheWords(t *testing.T) {
	r := rand.New(rand.NewSource(1111))
	answers := map[string]int{}
	for range 300 {
		text := randomScript(r, 196)
		got := checkLines(t, linesGiven{Text: text})
		if !got.OfficeTold || strings.Count(got.Desk, "\n") != strings.Count(text, "\n") || !impl.GoodOffice(got.Office) {
			t.Fatalf("%q: %q", text, got.Desk)
		}
		for _, line := range strings.Split(got.Desk, "\n") {
			answers[strings.Split(line, " ")[0]]++
		}
	}
	for _, word := range []string{"ok", "slot", "none", "waits", "ready", "steps", "done", "rows", "rows;", "left", "what", "0", "3", "4", "5", "6", "7"} {
		if answers[word] < 20 {
			t.Error(word, answers)
		}
	}
}

// The answers to the first lines of a script are the same whatever follows.
func TestFirstLinesHangOnNothingBehindThem(t *testing.T) {
	r := rand.New(rand.NewSource(77))
	for range 40 {
		lines := strings.SplitAfter(randomScript(r, 100), "\n")
		lines = lines[:len(lines)-1]
		told := impl.RunDesk(strings.Join(lines, ""))
		answers := strings.SplitAfter(told, "\n")
		for many := range lines {
			first, want := strings.Join(lines[:many], ""), strings.Join(answers[:many], "")
			if got := impl.RunDesk(first); got != want {
				t.Fatalf("%q: %q, not %q", first, got, want)
			}
			for _, tail := range []string{"\n", "finish\nready\n", osloKiel + "\nfly\n", "abort 0\nnew quote 1 1\n"} {
				if got := impl.RunDesk(first + tail); !strings.HasPrefix(got, want) || strings.Count(got, "\n") != many+strings.Count(tail, "\n") {
					t.Fatalf("%q: %q, not at first %q", first+tail, got, want)
				}
			}
		}
	}
}

// A script says what PlayMoves, FinishAfter and AbortAfter say to the same moves.
func TestScriptsAreMoves(t *testing.T) {
	r := rand.New(rand.NewSource(5))
	ops := []impl.Op{quote(everything(), 1, 2), hold("Ann", 40, family(), 1), book("Bo", people(3), 2, 4), book("Cy", withWhole(people(1), 2), 1), confirm(1), amend(1, people(2), 2), cancel(2, 0), transfer(1, "Zoe"), expire(1, 50), manifest(2)}
	o := newOffice(t, ferries()...)
	for range 60 {
		lines := sailLines(t, ferries()...)
		var m []impl.Move
		for range 100 {
			slot := r.Intn(5)
			switch n := r.Intn(20); {
			case n < 4:
				op := ops[r.Intn(len(ops))]
				lines, m = append(lines, newLine(t, op)), append(m, submit(op))
			case n < 5:
				lines, m = append(lines, fmt.Sprint("abort ", slot)), append(m, abort(slot))
			default:
				lines, m = append(lines, fmt.Sprint("run ", slot)), append(m, run(slot))
			}
		}
		_, codes, _ := impl.PlayMoves(o, m)
		answers := strings.Split(impl.RunDesk(script(append(lines, "ready", "finish", "done")...)), "\n")
		for i, code := range codes {
			if word := strings.Fields(answers[len(lines)-len(m)+i])[0]; !slices.Contains([][]string{{"ok", "slot"}, {}, {"none"}, {"waits"}, {"full"}}[code], word) {
				t.Fatal(m[i], code, word)
			}
		}
		ready, _ := impl.ReadyAfter(o, m)
		d, steps, _ := impl.FinishAfter(o, m)
		want := strings.TrimRight("ready "+strings.Trim(fmt.Sprint(ready), "[]"), " ") + fmt.Sprint("\nsteps ", steps, "\ndone")
		for i, x := range d.Done {
			want += fmt.Sprintf(" %d:%d", i+1, x.Answer.Code)
		}
		if got := strings.Join(answers[len(lines):len(lines)+3], "\n"); got != want {
			t.Fatalf("%q, not %q", got, want)
		}
		aborted, _ := impl.AbortAfter(o, m)
		wantLastOffice(t, script(lines...), aborted.Office)
		wantLastOffice(t, script(append(lines, "finish")...), d.Office)
	}
}
