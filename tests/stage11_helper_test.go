package tests

import (
	"fmt"
	"regexp"
	"slices"
	"strconv"
	"strings"
	"testing"

	"loop.example/g00084/impl"
)

// Chapter 11 told a second time: texts are written into the forms of the document and read by regular expressions, and the desk is that of the second telling of chapter 8.

// formsByWords are the texts of operations, as the document writes them.
var formsByWords = map[int]string{
	impl.OpQuote: "quote LEGS PARTY", impl.OpHold: "hold OWNER LEGS PARTY UNTIL", impl.OpBook: "book OWNER LEGS PARTY",
	impl.OpConfirm: "confirm NAME", impl.OpAmend: "amend NAME LEGS PARTY", impl.OpCancel: "cancel NAME NOW",
	impl.OpTransfer: "transfer NAME OWNER", impl.OpExpire: "expire NAME NOW", impl.OpManifest: "manifest LEGS",
}

const sailFormByWords = "sail ID FROM TO DEPART ARRIVE MOST LANES CABINS"

func partyTextByWords(p impl.Party) string {
	car, cabin := "", ""
	if p.Length > 0 {
		car = fmt.Sprintf("+%d/%d", p.Length, p.Height)
	}
	if p.Whole {
		cabin = fmt.Sprintf("@%d", p.Class)
	} else if p.Class > 0 {
		cabin = fmt.Sprintf("@%dx%d", p.Class, p.Berths)
	}
	return fmt.Sprint(p.People) + car + cabin
}

func legsTextByWords(legs []int) string {
	return strings.ReplaceAll(strings.Trim(fmt.Sprint(legs), "[]"), " ", ",")
}

func opTextByWords(op impl.Op) (string, bool) {
	beyond := func(leg int) bool { return leg < 0 || leg > 99999 }
	if !goodOpByWords(op) || slices.ContainsFunc(op.Legs, beyond) {
		return "", false
	}
	return strings.NewReplacer(
		"LEGS", legsTextByWords(op.Legs), "PARTY", partyTextByWords(op.Party), "OWNER", op.Owner, "NAME", fmt.Sprint(op.Name),
		"UNTIL", fmt.Sprint(op.Until), "NOW", fmt.Sprint(op.Now),
	).Replace(formsByWords[op.Kind]), true
}

func sailTextByWords(s impl.Sailing) (string, bool) {
	if !goodSailingByWords(s) {
		return "", false
	}
	lanes, cabins := "", ""
	for _, x := range s.Lanes {
		lanes += fmt.Sprintf(",%d/%d", x.Length, x.Height)
	}
	for _, x := range s.Cabins {
		cabins += fmt.Sprintf(",%d/%d", x.Class, x.Berths)
	}
	for _, list := range []*string{&lanes, &cabins} {
		if *list == "" {
			*list = ",-"
		}
	}
	return strings.NewReplacer(
		"ID", fmt.Sprint(s.Id), "FROM", s.From, "TO", s.To, "DEPART", fmt.Sprint(s.Depart), "ARRIVE", fmt.Sprint(s.Arrive),
		"MOST", fmt.Sprint(s.Most), "LANES", lanes[1:], "CABINS", cabins[1:],
	).Replace(sailFormByWords), true
}

const numberForm = `(?:0|[1-9][0-9]{0,4})`
const nameForm = `[a-zA-Z]{1,12}`

// expressionOf is the regular expression of a form; what a party is, partyExpression says.
func expressionOf(form string) *regexp.Regexp {
	number, name := "("+numberForm+")", "("+nameForm+")"
	pairs := "(-|" + numberForm + "/" + numberForm + "(?:," + numberForm + "/" + numberForm + ")*)"
	r := strings.NewReplacer(
		"LEGS", "("+numberForm+"(?:,"+numberForm+")*)", "PARTY", `([0-9+/@x]+)`, "OWNER", name, "NAME", number, "UNTIL", number, "NOW", number,
		"ID", number, "FROM", name, "TO", name, "DEPART", number, "ARRIVE", number, "MOST", number, "LANES", pairs, "CABINS", pairs,
	)
	return regexp.MustCompile(`\A` + r.Replace(form) + `\z`)
}

var opExpressions = func() map[int]*regexp.Regexp {
	all := map[int]*regexp.Regexp{}
	for kind, form := range formsByWords {
		all[kind] = expressionOf(form)
	}
	return all
}()

var sailExpression = expressionOf(sailFormByWords)

// No number of a party's text is 0: one without a car or a cabin does not tell it.
var partyExpression = regexp.MustCompile(`\A([1-9][0-9]{0,4})(?:\+([1-9][0-9]{0,4})/([1-9][0-9]{0,4}))?(?:@([1-9][0-9]{0,4})(?:x([1-9][0-9]{0,4}))?)?\z`)

// numberOf relies on the text being a number, or empty.
func numberOf(text string) int {
	n, _ := strconv.Atoi(text)
	return n
}

func numbersOf(text string) []int {
	var l []int
	for _, part := range strings.FieldsFunc(text, func(r rune) bool { return r == ',' || r == '/' || r == '-' }) {
		l = append(l, numberOf(part))
	}
	return l
}

func readPartyByWords(text string) (impl.Party, bool) {
	m := partyExpression.FindStringSubmatch(text)
	if m == nil {
		return impl.Party{}, false
	}
	p := impl.Party{People: numberOf(m[1]), Length: numberOf(m[2]), Height: numberOf(m[3]), Class: numberOf(m[4]), Berths: numberOf(m[5])}
	p.Whole = m[4] != "" && m[5] == ""
	return p, true
}

func readOpByWords(text string) (impl.Op, bool) {
	for kind, form := range formsByWords {
		m := opExpressions[kind].FindStringSubmatch(text)
		if m == nil {
			continue
		}
		op, good := impl.Op{Kind: kind}, true
		for i, field := range strings.Fields(form)[1:] {
			word := m[i+1]
			switch field {
			case "LEGS":
				op.Legs = numbersOf(word)
			case "PARTY":
				op.Party, good = readPartyByWords(word)
			case "OWNER":
				op.Owner = word
			case "NAME":
				op.Name = numberOf(word)
			case "UNTIL":
				op.Until = numberOf(word)
			case "NOW":
				op.Now = numberOf(word)
			}
		}
		if good && goodOpByWords(op) {
			return op, true
		}
	}
	return impl.Op{}, false
}

func readSailByWords(text string) (impl.Sailing, bool) {
	m := sailExpression.FindStringSubmatch(text)
	if m == nil {
		return impl.Sailing{}, false
	}
	s := impl.Sailing{Id: numberOf(m[1]), From: m[2], To: m[3], Depart: numberOf(m[4]), Arrive: numberOf(m[5]), Most: numberOf(m[6])}
	for pair := range slices.Chunk(numbersOf(m[7]), 2) {
		s.Lanes = append(s.Lanes, lane(pair[0], pair[1]))
	}
	for pair := range slices.Chunk(numbersOf(m[8]), 2) {
		s.Cabins = append(s.Cabins, cabin(pair[0], pair[1]))
	}
	if !goodSailingByWords(s) {
		return impl.Sailing{}, false
	}
	return s, true
}

// scriptInWords is a script while its lines are read.
type scriptInWords struct {
	sailings []impl.Sailing
	opened   bool
	desk     impl.Desk
	counted  int
}

var numberLineExpression = regexp.MustCompile(`\A(run|abort|answer|see|left) (` + numberForm + `)\z`)

func (s *scriptInWords) open() {
	if !s.opened {
		o, _ := newOfficeByWords(s.sailings)
		s.desk, _, _ = playByWords(o, nil)
		s.opened = true
	}
}

func (s *scriptInWords) line(line string) string {
	if !s.opened && (line == "sail" || strings.HasPrefix(line, "sail ")) {
		sailing, good := readSailByWords(line)
		if then := append(slices.Clone(s.sailings), sailing); good && goodTimetableByWords(then) {
			s.sailings = then
			return "ok"
		}
		return "no"
	}
	s.open()
	switch line {
	case "ready":
		return strings.TrimRight("ready "+strings.Trim(fmt.Sprint(readyByWords(s.desk)), "[]"), " ")
	case "finish":
		return fmt.Sprint("steps ", finishByWords(&s.desk))
	case "done":
		text := "done"
		for i, x := range s.desk.Done {
			text += fmt.Sprintf(" %d:%d", i+1, x.Answer.Code)
		}
		return text
	}
	if m := numberLineExpression.FindStringSubmatch(line); m != nil {
		return s.numbered(m[1], numberOf(m[2]))
	}
	if op, good := readOpByWords(strings.TrimPrefix(line, "new ")); good && strings.HasPrefix(line, "new ") {
		return s.move(submit(op))
	}
	return "what"
}

func (s *scriptInWords) numbered(word string, number int) string {
	at := sailingAtByWords(s.desk.Office, number)
	switch {
	case word == "run":
		return s.move(run(number))
	case word == "abort":
		return s.move(abort(number))
	case word == "answer" && (number < 1 || number > len(s.desk.Done)), word != "answer" && at < 0:
		return "none"
	case word == "answer":
		a := s.desk.Done[number-1].Answer
		return fmt.Sprint(a.Code, a.Name, a.Price) + rowsTextByWords(a.Rows)
	case word == "see":
		return "rows" + rowsTextByWords(rowsAtWork(s.desk.Office, at))
	}
	return leftTextByWords(s.desk.Office.Sailings[at], s.desk.Office.Loads[at])
}

func (s *scriptInWords) move(m impl.Move) string {
	if s.counted == 400 {
		return "what"
	}
	next := s.desk.Next
	code := moveByWords(&s.desk, m)
	if code == 0 {
		s.counted++
	}
	for _, k := range s.desk.Tasks {
		if m.Kind == impl.MoveSubmit && k.By == next {
			return fmt.Sprint("slot ", k.Slot)
		}
	}
	return map[int]string{0: "ok", 2: "none", 3: "waits", 4: "full"}[code]
}

// rowsAtWork is of an office in which tasks may have placed and taken away.
func rowsAtWork(o impl.Office, at int) []impl.Row {
	var rows []impl.Row
	for _, b := range o.Bookings {
		if !liveByWords(b) || !slices.Contains(b.Legs, o.Sailings[at].Id) {
			continue
		}
		row := impl.Row{Name: b.Name, Owner: b.Owner, People: b.Party.People, Lane: -1, Cabin: -1}
		for _, x := range o.Loads[at].Stays {
			if x.By == b.By {
				row.Lane = x.Lane
			}
		}
		for _, x := range o.Loads[at].Rooms {
			if x.By == b.By {
				row.Cabin = x.Cabin
			}
		}
		rows = append(rows, row)
	}
	return rows
}

func rowsTextByWords(rows []impl.Row) string {
	text := ""
	for _, r := range rows {
		text += fmt.Sprintf("; %d %s %d %d %d", r.Name, r.Owner, r.People, r.Lane, r.Cabin)
	}
	return text
}

func leftTextByWords(s impl.Sailing, l impl.Load) string {
	lengths, _ := freeByWords(s.Lanes, l.Stays)
	free, _ := freeBerthsByWords(s.Cabins, l.Rooms)
	people := s.Most
	for _, x := range l.Seats {
		people -= x.Many
	}
	var words []string
	for _, n := range lengths {
		words = append(words, fmt.Sprint(n))
	}
	words = append(words, ";")
	for _, n := range free {
		words = append(words, fmt.Sprint(n))
	}
	return "left " + strings.Join(append(words, ";", fmt.Sprint(people)), " ")
}

// scriptByWords is what RunDesk and LastOffice answer.
func scriptByWords(text string) (string, impl.Office, bool) {
	lines := strings.Split(text, "\n")
	last := len(lines) - 1
	if len(text) > 4000 || last > 200 || lines[last] != "" {
		return "", impl.Office{}, false
	}
	var s scriptInWords
	told := ""
	for _, line := range lines[:last] {
		told += s.line(line) + "\n"
	}
	s.open()
	for len(s.desk.Tasks) > 0 {
		abortByWords(&s.desk, 0)
	}
	return told, s.desk.Office, true
}

// linesAnswers is all that the functions of chapter 11 answer to the same.
type linesAnswers struct {
	OpText     string
	OpTold     bool
	Op         impl.Op
	OpRead     bool
	SailText   string
	SailTold   bool
	Sailing    impl.Sailing
	SailRead   bool
	Desk       string
	Office     impl.Office
	OfficeTold bool
}

// linesGiven is read as a text of each kind.
type linesGiven struct {
	Op      impl.Op
	Sailing impl.Sailing
	Text    string
}

func askLines(g linesGiven) linesAnswers {
	var r linesAnswers
	r.OpText, r.OpTold = impl.OpText(g.Op)
	r.Op, r.OpRead = impl.ReadOp(g.Text)
	r.SailText, r.SailTold = impl.SailText(g.Sailing)
	r.Sailing, r.SailRead = impl.ReadSail(g.Text)
	r.Desk = impl.RunDesk(g.Text)
	r.Office, r.OfficeTold = impl.LastOffice(g.Text)
	return r
}

func linesByWords(g linesGiven) linesAnswers {
	var r linesAnswers
	r.OpText, r.OpTold = opTextByWords(g.Op)
	r.Op, r.OpRead = readOpByWords(g.Text)
	r.SailText, r.SailTold = sailTextByWords(g.Sailing)
	r.Sailing, r.SailRead = readSailByWords(g.Text)
	r.Desk, r.Office, r.OfficeTold = scriptByWords(g.Text)
	return r
}

func checkLines(t *testing.T, g linesGiven) linesAnswers {
	t.Helper()
	got, want := askLines(g), linesByWords(g)
	if inWords(got) != inWords(want) {
		t.Fatalf("%+v, %+v, %q:\n%+v, and by the words\n%+v", g.Op, g.Sailing, g.Text, got, want)
	}
	return got
}

// wantOpText asks for the text of an operation, there and back.
func wantOpText(t *testing.T, op impl.Op, want string) {
	t.Helper()
	if text, good := impl.OpText(op); !good || text != want {
		t.Errorf("%+v is told as %q, %v, not %q", op, text, good, want)
	}
	if read, good := impl.ReadOp(want); !good || !sameOp(read, op) {
		t.Errorf("%q is read as %+v, %v, not %+v", want, read, good, op)
	}
	checkLines(t, linesGiven{Op: op, Text: want})
}

func wantNoOpText(t *testing.T, op impl.Op) {
	t.Helper()
	if text, good := impl.OpText(op); good || text != "" {
		t.Errorf("%+v is told as %q, %v", op, text, good)
	}
	checkLines(t, linesGiven{Op: op})
}

func wantNoOp(t *testing.T, text string) {
	t.Helper()
	if op, good := impl.ReadOp(text); good || !sameOp(op, impl.Op{}) {
		t.Errorf("%q is read as %+v, %v", text, op, good)
	}
	if _, good := readOpByWords(text); good {
		t.Errorf("%q is an operation by the words", text)
	}
}

func wantSailText(t *testing.T, s impl.Sailing, want string) {
	t.Helper()
	if text, good := impl.SailText(s); !good || text != want {
		t.Errorf("%+v is told as %q, %v, not %q", s, text, good, want)
	}
	if read, good := impl.ReadSail(want); !good || !sameSailings([]impl.Sailing{read}, []impl.Sailing{s}) {
		t.Errorf("%q is read as %+v, %v, not %+v", want, read, good, s)
	}
	checkLines(t, linesGiven{Sailing: s, Text: want})
}

func wantNoSail(t *testing.T, text string) {
	t.Helper()
	if s, good := impl.ReadSail(text); good || !sameSailings([]impl.Sailing{s}, []impl.Sailing{{}}) {
		t.Errorf("%q is read as %+v, %v", text, s, good)
	}
	if _, good := readSailByWords(text); good {
		t.Errorf("%q is a sailing by the words", text)
	}
}

// script puts a byte 10 behind each line.
func script(lines ...string) string {
	text := ""
	for _, line := range lines {
		text += line + "\n"
	}
	return text
}

// wantScript has the answer to each line behind it.
func wantScript(t *testing.T, linesAndAnswers ...string) {
	t.Helper()
	var lines, want []string
	for pair := range slices.Chunk(linesAndAnswers, 2) {
		lines, want = append(lines, pair[0]), append(want, pair[1])
	}
	text := script(lines...)
	got := strings.Split(impl.RunDesk(text), "\n")
	for i, line := range lines {
		if i >= len(got) || got[i] != want[i] {
			t.Fatalf("%q, line %d, %q: %q, and the answers to be are %q", text, i+1, line, got, want)
		}
	}
	if impl.RunDesk(text) != script(want...) {
		t.Fatalf("%q: %q", text, got)
	}
	checkLines(t, linesGiven{Text: text})
}

// wantNoScript asks for the zero answers.
func wantNoScript(t *testing.T, text string) {
	t.Helper()
	if told := impl.RunDesk(text); told != "" {
		t.Errorf("%q: %q", text, told)
	}
	if o, good := impl.LastOffice(text); good || !sameOffice(o, impl.Office{}) {
		t.Errorf("%q: %+v, %v", text, o, good)
	}
	checkLines(t, linesGiven{Text: text})
}

func wantLastOffice(t *testing.T, text string, want impl.Office) {
	t.Helper()
	o, good := impl.LastOffice(text)
	if !good {
		t.Fatalf("%q: no office", text)
	}
	wantOffice(t, o, want)
	if !impl.GoodOffice(o) {
		t.Errorf("%q: the office is not good: %+v", text, o)
	}
	checkLines(t, linesGiven{Text: text})
}

// sailLines are the lines of a timetable.
func sailLines(t *testing.T, l ...impl.Sailing) []string {
	t.Helper()
	var lines []string
	for _, s := range l {
		text, good := sailTextByWords(s)
		if !good {
			t.Fatal(s)
		}
		lines = append(lines, text)
	}
	return lines
}

// newLine submits an operation.
func newLine(t *testing.T, op impl.Op) string {
	t.Helper()
	text, good := opTextByWords(op)
	if !good {
		t.Fatal(op)
	}
	return "new " + text
}
