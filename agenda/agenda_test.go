package agenda_test

import (
	"fmt"
	"math"
	"math/rand/v2"
	"slices"
	"testing"

	"simulator/agenda"
	"simulator/api"
)

const (
	maxInt  = api.MaxInt
	maxTime = api.MaxTime
)

// numbers has integers of all sizes, in increasing order.
func numbers() []int {
	return []int{math.MinInt, math.MinInt + 1, -maxInt - 1, -maxInt, -2, -1, 0, 1, 2, 15, 16, 100, 101, maxTime, maxTime + 1, maxInt, maxInt + 1, math.MaxInt - 1, math.MaxInt}
}

// event is an event with the numbers that identify it.
func event(time, prio, from, seq int) api.Event {
	return api.Event{Time: time, Prio: prio, From: from, Seq: seq, Kind: api.EStart}
}

// resume is the event that lets a process go on.
func resume(time, seq, proc int) api.Event {
	return api.Event{Time: time, Prio: 1, Seq: seq, Kind: api.EResume, A: proc}
}

// full is an event of which no field is zero.
func full() api.Event {
	return api.Event{Time: 3, Prio: 4, From: 5, Seq: 6, Site: 7, Kind: api.EFault, A: 8, B: 9, Args: []int{10, -11}}
}

// changed is full after a change.
func changed(change func(e *api.Event)) api.Event {
	e := full()
	change(&e)
	return e
}

// row is a list of n events, all with different times.
func row(n int) []api.Event {
	list := make([]api.Event, n)
	for i := range list {
		list[i] = event(2*i+1, i%101, i%16, i)
	}
	return list
}

// id is the four numbers that identify an event.
func id(e api.Event) [4]int { return [4]int{e.Time, e.Prio, e.From, e.Seq} }

// lessOf is the order of the chapter, number by number.
func lessOf(a, b api.Event) bool {
	if a.Time != b.Time {
		return a.Time < b.Time
	}
	if a.Prio != b.Prio {
		return a.Prio < b.Prio
	}
	if a.From != b.From {
		return a.From < b.From
	}
	return a.Seq < b.Seq
}

// sameOf is the definition of Same, field by field.
func sameOf(a, b api.Event) bool {
	return id(a) == id(b) && a.Site == b.Site && a.Kind == b.Kind && a.A == b.A && a.B == b.B && slices.Equal(a.Args, b.Args)
}

// sameLists reports whether two lists have equal events in the same order.
func sameLists(a, b []api.Event) bool { return slices.EqualFunc(a, b, sameOf) }

// cloned is a copy of a list that shares no memory with it.
func cloned(list []api.Event) []api.Event {
	copied := slices.Clone(list)
	for i := range copied {
		copied[i].Args = slices.Clone(copied[i].Args)
	}
	return copied
}

// zero reports whether no field of an event is set.
func zero(e api.Event) bool { return sameOf(e, api.Event{}) }

// events has events of which many agree in some of the four numbers, and some in all of them.
func events() []api.Event {
	var list []api.Event
	for i := range 3 * 3 * 3 * 3 {
		list = append(list, event(i/27, i/9%3, i/3%3, i%3))
	}
	list = append(list, full(), api.Event{}, resume(1, 1, 1), resume(1, 1, 2))
	for _, n := range numbers() {
		list = append(list, event(n, 0, 0, 0), event(0, n, 0, 0), event(0, 0, n, 0), event(0, 0, 0, n), event(n, -n, n, -n))
	}
	return list
}

// variants has events that differ from full in one field each, Same's neighbours of it.
func variants() []api.Event {
	return []api.Event{
		changed(func(e *api.Event) { e.Time++ }),
		changed(func(e *api.Event) { e.Prio++ }),
		changed(func(e *api.Event) { e.From++ }),
		changed(func(e *api.Event) { e.Seq++ }),
		changed(func(e *api.Event) { e.Site++ }),
		changed(func(e *api.Event) { e.Kind-- }),
		changed(func(e *api.Event) { e.Kind = 0 }),
		changed(func(e *api.Event) { e.A++ }),
		changed(func(e *api.Event) { e.B++ }),
		changed(func(e *api.Event) { e.Args[0]++ }),
		changed(func(e *api.Event) { e.Args[1]-- }),
		changed(func(e *api.Event) { e.Args[0], e.Args[1] = e.Args[1], e.Args[0] }),
		changed(func(e *api.Event) { e.Args = e.Args[:1] }),
		changed(func(e *api.Event) { e.Args = append(e.Args, 0) }),
		changed(func(e *api.Event) { e.Args = make([]int, 7) }),
		changed(func(e *api.Event) { e.Args = []int{} }),
		changed(func(e *api.Event) { e.Args = []int{0} }),
	}
}

// faulty is an event that is not valid, and its error.
type faulty struct {
	name string
	e    api.Event
	want api.Errno
}

// outOfRange has events with a number just outside, and far outside, of its range.
func outOfRange() []faulty {
	var list []faulty
	fields := []struct {
		name  string
		field func(e *api.Event) *int
		high  int
	}{
		{"Time", func(e *api.Event) *int { return &e.Time }, maxTime},
		{"Prio", func(e *api.Event) *int { return &e.Prio }, api.MaxPrio},
		{"From", func(e *api.Event) *int { return &e.From }, api.MaxSites - 1},
		{"Site", func(e *api.Event) *int { return &e.Site }, api.MaxSites - 1},
		{"Seq", func(e *api.Event) *int { return &e.Seq }, maxInt},
		{"A", func(e *api.Event) *int { return &e.A }, maxInt},
		{"B", func(e *api.Event) *int { return &e.B }, maxInt},
	}
	for _, f := range fields {
		for _, n := range []int{-1, -2, -maxInt, math.MinInt, f.high + 1, f.high + 2, math.MaxInt} {
			e := full()
			*f.field(&e) = n
			list = append(list, faulty{fmt.Sprint(f.name, " ", n), e, api.ErrRange})
		}
	}
	return list
}

// faults has events that are not valid, also in several ways at once.
func faults() []faulty {
	with := func(kind api.Kind, args []int) api.Event {
		return changed(func(e *api.Event) { e.Kind, e.Args = kind, args })
	}
	large := []int{0, maxInt + 1}
	list := append(outOfRange(),
		faulty{"the zero event", api.Event{}, api.ErrArg},
		faulty{"Kind -1", with(-1, nil), api.ErrArg},
		faulty{"Kind 0", with(0, nil), api.ErrArg},
		faulty{"Kind 6", with(6, nil), api.ErrArg},
		faulty{"least Kind", with(math.MinInt, nil), api.ErrArg},
		faulty{"greatest Kind", with(math.MaxInt, nil), api.ErrArg},
		faulty{"7 Args", with(1, make([]int, 7)), api.ErrLong},
		faulty{"1000 Args", with(1, make([]int, 1000)), api.ErrLong},
		faulty{"an argument above MaxInt", with(1, []int{maxInt + 1}), api.ErrRange},
		faulty{"an argument below -MaxInt", with(1, []int{-maxInt - 1}), api.ErrRange},
		faulty{"the first of 6 too large", with(1, []int{maxInt + 1, 0, 0, 0, 0, 0}), api.ErrRange},
		faulty{"the last of 6 too large", with(1, []int{0, 0, 0, 0, 0, maxInt + 1}), api.ErrRange},
		faulty{"the last of 6 too small", with(1, []int{0, 0, 0, 0, 0, math.MinInt}), api.ErrRange},
		faulty{"Kind before the number of Args", with(6, make([]int, 7)), api.ErrArg},
		faulty{"Kind before the size of Args", with(0, large), api.ErrArg},
		faulty{"the number of Args before their size", with(1, []int{maxInt + 1, 0, 0, 0, 0, 0, 0}), api.ErrLong},
	)
	for _, f := range outOfRange() {
		f.e.Kind, f.e.Args = 0, make([]int, 7)
		list = append(list, faulty{f.name + " before Kind", f.e, api.ErrRange})
		f.e.Kind = 5
		list = append(list, faulty{f.name + " before the number of Args", f.e, api.ErrRange})
	}
	return list
}

// badLists has lists that Check rejects, and their errors.
func badLists() map[string]struct {
	l    []api.Event
	want api.Errno
} {
	type bad = struct {
		l    []api.Event
		want api.Errno
	}
	// long has equal events that are not valid, so that there are faults of every kind.
	long := slices.Repeat([]api.Event{{Time: -1}}, api.MaxEvents+1)
	list := map[string]bad{
		"2 before 1":                       {[]api.Event{event(2, 0, 0, 0), event(1, 0, 0, 0)}, api.ErrOrder},
		"equal events":                     {[]api.Event{full(), full()}, api.ErrOrder},
		"equal but for Site, Kind and A":   {[]api.Event{resume(2, 0, 3), {Time: 2, Prio: 1, Site: 4, Kind: api.EShift, A: 5}}, api.ErrOrder},
		"equal but for B and Args":         {[]api.Event{resume(2, 0, 3), {Time: 2, Prio: 1, Kind: api.EResume, A: 3, B: 1, Args: []int{1}}}, api.ErrOrder},
		"Prio out of order":                {[]api.Event{event(1, 2, 0, 0), event(1, 1, 5, 5)}, api.ErrOrder},
		"From out of order":                {[]api.Event{event(1, 2, 3, 0), event(1, 2, 2, 9)}, api.ErrOrder},
		"Seq out of order":                 {[]api.Event{event(1, 2, 3, 9), event(1, 2, 3, 8)}, api.ErrOrder},
		"the last two out of order":        {append(row(10), event(18, 0, 0, 0)), api.ErrOrder},
		"the last two equal":               {append(row(10), row(10)[9]), api.ErrOrder},
		"a zero event alone":               {[]api.Event{{}}, api.ErrArg},
		"a zero event last":                {append(row(10), api.Event{}), api.ErrArg},
		"order first, then Kind":           {[]api.Event{event(2, 0, 0, 0), event(1, 0, 0, 0), {}}, api.ErrOrder},
		"Kind first, then order":           {[]api.Event{event(1, 0, 0, 0), {Time: 2}, event(1, 0, 0, 0)}, api.ErrArg},
		"an event's error before order":    {[]api.Event{event(2, 0, 0, 0), event(1, 101, 0, 0)}, api.ErrRange},
		"the first of two different":       {[]api.Event{{}, event(-1, 0, 0, 0)}, api.ErrArg},
		"the first of two different, too":  {[]api.Event{event(-1, 0, 0, 0), {}}, api.ErrRange},
		"too many events":                  {row(api.MaxEvents + 1), api.ErrLong},
		"too many events that are invalid": {long, api.ErrLong},
		"MaxEvents events, the last wrong": {append(row(api.MaxEvents-1), api.Event{Time: maxTime}), api.ErrArg},
		"MaxEvents events, the last equal": {append(row(api.MaxEvents-1), row(api.MaxEvents - 1)[api.MaxEvents-2]), api.ErrOrder},
	}
	for _, f := range faults() {
		list["first: "+f.name] = bad{[]api.Event{f.e, event(9, 0, 0, 0), event(8, 0, 0, 0)}, f.want}
		list["second: "+f.name] = bad{[]api.Event{event(2, 0, 0, 0), f.e}, f.want}
	}
	return list
}

// goodLists has lists that Check accepts.
func goodLists() [][]api.Event {
	list := [][]api.Event{
		nil, {}, {event(0, 0, 0, 0)}, {full()}, {event(maxTime, api.MaxPrio, 15, maxInt)},
		{event(1, 0, 0, 0), event(9, 0, 0, 0)}, {resume(3, 0, 7), resume(4, 1, 2), resume(8, 2, 7)},
		{event(1, 1, 1, 1), event(1, 1, 1, 2), event(1, 1, 2, 0), event(1, 2, 0, 0), event(2, 0, 0, 0)},
		row(2), row(3), row(17), row(api.MaxEvents - 1), row(api.MaxEvents),
	}
	return append(list, randomList(1, 40), randomList(2, 200))
}

// randomList is a list of at most n events that often agree in some of the four numbers; some are EResume of few processes.
func randomList(seed uint64, n int) []api.Event {
	source := rand.New(rand.NewPCG(5, seed))
	seen := map[[4]int]bool{}
	var list []api.Event
	for range n {
		e := randomEvent(source)
		if !seen[id(e)] {
			seen[id(e)] = true
			list = append(list, e)
		}
	}
	slices.SortFunc(list, func(a, b api.Event) int {
		if lessOf(a, b) {
			return -1
		}
		return 1
	})
	return list
}

func randomEvent(source *rand.Rand) api.Event {
	e := event(source.IntN(20), source.IntN(3), source.IntN(3), source.IntN(5))
	e.Site, e.Kind, e.A, e.B = source.IntN(16), api.Kind(1+source.IntN(5)), source.IntN(4), source.IntN(3)
	for range source.IntN(7) {
		e.Args = append(e.Args, source.IntN(100)-50)
	}
	return e
}

// P5.1

func TestLessIsTheOrderOfTimePrioFromSeq(t *testing.T) {
	for _, a := range events() {
		for _, b := range events() {
			if got := agenda.Less(a, b); got != lessOf(a, b) {
				t.Fatalf("Less(%+v, %+v) = %v", a, b, got)
			}
		}
	}
}

func TestLessByOneNumberAlone(t *testing.T) {
	for _, c := range []struct {
		name string
		a, b api.Event
	}{
		{"Time, against all others", event(3, 9, 9, 9), event(4, 0, 0, 0)},
		{"Time alone", event(3, 1, 1, 1), event(4, 1, 1, 1)},
		{"Prio alone, the chapter's example", event(3, 2, 0, 0), event(3, 5, 0, 0)},
		{"Prio, against From and Seq", event(3, 2, 9, 9), event(3, 5, 0, 0)},
		{"From and Seq, the chapter's example", event(7, 4, 0, 9), event(7, 4, 1, 2)},
		{"From alone", event(7, 4, 0, 9), event(7, 4, 1, 9)},
		{"Seq alone", event(7, 4, 1, 8), event(7, 4, 1, 9)},
		{"ends of int", event(math.MinInt, 0, 0, 0), event(math.MaxInt, 0, 0, 0)},
		{"Seq at the ends of int", event(0, 0, 0, math.MinInt), event(0, 0, 0, math.MaxInt)},
	} {
		if !agenda.Less(c.a, c.b) || agenda.Less(c.b, c.a) {
			t.Error(c.name)
		}
	}
}

func TestLessIsIrreflexiveAndTotal(t *testing.T) {
	for _, a := range events() {
		if agenda.Less(a, a) {
			t.Fatalf("%+v comes before itself", a)
		}
		for _, b := range events() {
			if id(a) != id(b) && agenda.Less(a, b) == agenda.Less(b, a) {
				t.Fatalf("not exactly one of %+v and %+v comes before the other", a, b)
			}
		}
	}
}

func TestLessIsTransitive(t *testing.T) {
	list := events()
	for i := range list {
		for j := range list {
			if !agenda.Less(list[i], list[j]) {
				continue
			}
			for k := range list {
				if agenda.Less(list[j], list[k]) && !agenda.Less(list[i], list[k]) {
					t.Fatalf("%+v, %+v, %+v", list[i], list[j], list[k])
				}
			}
		}
	}
}

func TestLessLooksAtFourNumbersOnly(t *testing.T) {
	for _, v := range variants() {
		if id(v) == id(full()) && (agenda.Less(v, full()) || agenda.Less(full(), v)) {
			t.Errorf("%+v", v)
		}
	}
	a, b := full(), full()
	a.Site, a.Kind, a.A, a.B, a.Args, b.Seq = 99, 99, 99, 99, make([]int, 99), b.Seq+1
	if !agenda.Less(a, b) || agenda.Less(b, a) {
		t.Error("other fields count")
	}
}

func TestSameComparesAllFields(t *testing.T) {
	all := append(variants(), full())
	for i, a := range all {
		for j, b := range all {
			if got, want := agenda.Same(a, b), i == j; got != want || want != sameOf(a, b) {
				t.Errorf("Same(%+v, %+v) = %v", a, b, got)
			}
		}
	}
	if !agenda.Same(full(), full()) || !agenda.Same(api.Event{}, api.Event{}) {
		t.Error("an event is not the same as an equal one")
	}
}

func TestSameIsAnEquivalence(t *testing.T) {
	list := append(variants(), full(), full(), api.Event{}, api.Event{Args: []int{}}, event(math.MinInt, math.MaxInt, -1, 99))
	for _, a := range list {
		if !agenda.Same(a, a) {
			t.Fatalf("%+v is not the same as itself", a)
		}
		for _, b := range list {
			if agenda.Same(a, b) != agenda.Same(b, a) {
				t.Fatalf("%+v and %+v", a, b)
			}
			for _, c := range list {
				if agenda.Same(a, b) && agenda.Same(b, c) && !agenda.Same(a, c) {
					t.Fatalf("%+v, %+v, %+v", a, b, c)
				}
			}
		}
	}
}

func TestNilAndEmptyArgsAreTheSame(t *testing.T) {
	a, b, c := resume(1, 1, 1), resume(1, 1, 1), resume(1, 1, 1)
	b.Args, c.Args = []int{}, make([]int, 0, 9)
	for _, x := range []api.Event{a, b, c} {
		for _, y := range []api.Event{a, b, c} {
			if !agenda.Same(x, y) {
				t.Errorf("%#v, %#v", x.Args, y.Args)
			}
		}
	}
	b.Args = []int{0}
	if agenda.Same(a, b) || agenda.Same(b, a) {
		t.Error("an argument 0 is none")
	}
}

// P5.2

func TestEventAcceptsTheEnds(t *testing.T) {
	for i, e := range []api.Event{
		{Kind: api.EStart}, {Kind: api.EResume}, {Kind: api.EArrive}, {Kind: api.EShift}, {Kind: api.EFault}, full(),
		{Time: maxTime, Prio: api.MaxPrio, From: 15, Seq: maxInt, Site: 15, Kind: api.EResume, A: maxInt, B: maxInt},
		{Time: 1, Prio: 99, From: 14, Seq: maxInt - 1, Site: 14, Kind: api.EShift, A: maxInt - 1, B: maxInt - 1},
		{Kind: api.EStart, Args: []int{}}, {Kind: api.EStart, Args: make([]int, 5)}, {Kind: api.EStart, Args: make([]int, 6)},
		{Kind: api.EStart, Args: []int{maxInt}}, {Kind: api.EStart, Args: []int{-maxInt}}, {Kind: api.EFault, B: 2},
		{Kind: api.EResume, Args: []int{maxInt, -maxInt, maxInt - 1, 1 - maxInt, -1, 1}},
	} {
		if got := agenda.Event(e); got != api.OK {
			t.Errorf("%d: Event(%+v) = %v", i, e, got)
		}
	}
}

func TestEventErrorsInTheirOrder(t *testing.T) {
	for _, f := range faults() {
		if got := agenda.Event(f.e); got != f.want {
			t.Errorf("%s: Event(%+v) = %v, not %v", f.name, f.e, got, f.want)
		}
	}
}

func TestCheckAccepts(t *testing.T) {
	for i, l := range goodLists() {
		if got := agenda.Check(l); got != api.OK {
			t.Errorf("list %d of %d events: %v", i, len(l), got)
		}
	}
}

func TestCheckErrorsInTheirOrder(t *testing.T) {
	for name, c := range badLists() {
		if got := agenda.Check(c.l); got != c.want {
			t.Errorf("%s: %v, not %v", name, got, c.want)
		}
	}
}

func TestCheckOfAnyTwoEvents(t *testing.T) {
	for _, a := range events() {
		for _, b := range events() {
			want := api.OK
			switch {
			case agenda.Event(a) != api.OK:
				want = agenda.Event(a)
			case agenda.Event(b) != api.OK:
				want = agenda.Event(b)
			case !lessOf(a, b):
				want = api.ErrOrder
			}
			if got := agenda.Check([]api.Event{a, b}); got != want {
				t.Fatalf("Check of %+v and %+v is %v, not %v", a, b, got, want)
			}
		}
	}
}

// P5.3

// candidates has events that come before, between and after those of a list.
func candidates(l []api.Event) []api.Event {
	list := []api.Event{event(0, 0, 0, 0), event(maxTime, api.MaxPrio, 15, maxInt), full(), event(4, 0, 0, 0)}
	source := rand.New(rand.NewPCG(5, 77))
	for range 30 {
		list = append(list, randomEvent(source))
	}
	for i := 0; i < len(l); i += 1 + len(l)/20 {
		e := l[i]
		before, after := e, e
		after.Seq++
		before.Prio--
		before.Seq += 5
		list = append(list, e, before, after)
	}
	return list
}

func TestPutInItsPlace(t *testing.T) {
	for i, l := range goodLists() {
		for _, e := range candidates(l) {
			at := 0
			for at < len(l) && lessOf(l[at], e) {
				at++
			}
			want, errno := slices.Concat(l[:at], []api.Event{e}, l[at:]), agenda.Event(e)
			if errno == api.OK && at < len(l) && id(l[at]) == id(e) {
				errno = api.ErrTwice
			} else if errno == api.OK && len(l) == api.MaxEvents {
				errno = api.ErrFull
			}
			if errno != api.OK {
				want = nil
			}
			got, gotErrno := agenda.Put(l, e)
			if gotErrno != errno || !sameLists(got, want) || agenda.Check(got) != api.OK {
				t.Fatalf("list %d, Put of %+v: %d events, %v, not %d events, %v", i, e, len(got), gotErrno, len(want), errno)
			}
		}
	}
}

func TestPutExample(t *testing.T) {
	got, errno := agenda.Put([]api.Event{event(1, 0, 0, 0), event(9, 0, 0, 1)}, event(4, 0, 0, 2))
	if errno != api.OK || !sameLists(got, []api.Event{event(1, 0, 0, 0), event(4, 0, 0, 2), event(9, 0, 0, 1)}) {
		t.Error(got, errno)
	}
}

func TestPutTwiceThoughOtherFieldsDiffer(t *testing.T) {
	l := []api.Event{event(1, 0, 0, 0), full(), event(9, 0, 0, 0)}
	for _, v := range variants() {
		want := api.OK
		if id(v) == id(full()) {
			want = api.ErrTwice
		}
		if agenda.Event(v) != api.OK {
			want = agenda.Event(v)
		}
		if got, errno := agenda.Put(l, v); errno != want || (errno != api.OK && len(got) > 0) {
			t.Errorf("Put of %+v: %v, not %v", v, errno, want)
		}
	}
}

func TestPutErrorsInTheirOrder(t *testing.T) {
	whole, almost := row(api.MaxEvents), row(api.MaxEvents-1)
	late := event(maxTime, 0, 0, 0)
	for _, c := range []struct {
		name string
		l    []api.Event
		e    api.Event
		want api.Errno
	}{
		{"the list, then the event", []api.Event{event(2, 0, 0, 0), event(1, 0, 0, 0)}, api.Event{}, api.ErrOrder},
		{"the list, then twice", []api.Event{event(2, 0, 0, 0), event(2, 0, 0, 0)}, event(2, 0, 0, 0), api.ErrOrder},
		{"the list, then full", append(row(api.MaxEvents-1), api.Event{}), late, api.ErrArg},
		{"a list that is too long", row(api.MaxEvents + 1), late, api.ErrLong},
		{"a list that is too long, and the event", row(api.MaxEvents + 1), event(-1, 0, 0, 0), api.ErrLong},
		{"the event, then twice", row(3), api.Event{Time: 1}, api.ErrArg},
		{"the event, then full", whole, event(-1, 0, 0, 0), api.ErrRange},
		{"twice, then full: first", whole, whole[0], api.ErrTwice},
		{"twice, then full: middle", whole, whole[api.MaxEvents/2], api.ErrTwice},
		{"twice, then full: last", whole, whole[api.MaxEvents-1], api.ErrTwice},
		{"full", whole, late, api.ErrFull},
		{"full, in the middle", whole, event(api.MaxEvents, 0, 0, 0), api.ErrFull},
		{"twice", almost, almost[7], api.ErrTwice},
		{"room for one more", almost, late, api.OK},
	} {
		got, errno := agenda.Put(c.l, c.e)
		if errno != c.want || (errno != api.OK && len(got) > 0) || (errno == api.OK && len(got) != len(c.l)+1) {
			t.Errorf("%s: %d events, %v, not %v", c.name, len(got), errno, c.want)
		}
	}
	for _, f := range faults() {
		if got, errno := agenda.Put(row(3), f.e); errno != f.want || len(got) > 0 {
			t.Errorf("%s: %v, not %v", f.name, errno, f.want)
		}
	}
	for name, c := range badLists() {
		if got, errno := agenda.Put(c.l, late); errno != c.want || len(got) > 0 {
			t.Errorf("%s: %v, not %v", name, errno, c.want)
		}
	}
}

func TestNextTakesTheFirst(t *testing.T) {
	for i, l := range goodLists() {
		first, others, ok := agenda.Next(l)
		if len(l) == 0 {
			if ok || !zero(first) || len(others) > 0 {
				t.Errorf("list %d: something of nothing", i)
			}
			continue
		}
		if !ok || !sameOf(first, l[0]) || !sameLists(others, l[1:]) {
			t.Errorf("list %d: %+v, %d others, %v", i, first, len(others), ok)
		}
	}
}

func TestNextOfRejectedLists(t *testing.T) {
	for name, c := range badLists() {
		if e, l, ok := agenda.Next(c.l); ok || !zero(e) || len(l) > 0 {
			t.Errorf("%s: %+v, %d events, %v", name, e, len(l), ok)
		}
	}
}

func TestEventsComeOutInOrder(t *testing.T) {
	source := rand.New(rand.NewPCG(5, 3))
	for seed := range uint64(30) {
		want := randomList(seed, 60)
		mixed := slices.Clone(want)
		source.Shuffle(len(mixed), func(i, j int) { mixed[i], mixed[j] = mixed[j], mixed[i] })
		var list []api.Event
		for _, e := range mixed {
			more, errno := agenda.Put(list, e)
			if errno != api.OK || len(more) != len(list)+1 || agenda.Check(more) != api.OK {
				t.Fatalf("seed %d: Put of %+v: %v", seed, e, errno)
			}
			list = more
		}
		var got []api.Event
		for {
			e, others, ok := agenda.Next(list)
			if !ok {
				break
			}
			got, list = append(got, e), others
		}
		if !sameLists(got, want) {
			t.Fatalf("seed %d: wrong order", seed)
		}
	}
}

// P5.4

// dropOf is Drop for an accepted list, event by event.
func dropOf(l []api.Event, proc int) ([]api.Event, api.Event, bool) {
	var kept []api.Event
	var found []api.Event
	for _, e := range l {
		if len(found) == 0 && e.Kind == api.EResume && e.A == proc {
			found = append(found, e)
		} else {
			kept = append(kept, e)
		}
	}
	if len(found) == 0 {
		return nil, api.Event{}, false
	}
	return kept, found[0], true
}

func TestDropTakesOutOneEvent(t *testing.T) {
	for i, l := range goodLists() {
		for _, proc := range append(numbers(), 3, 4, 7) {
			got, e, ok := agenda.Drop(l, proc)
			want, wantEvent, wantOk := dropOf(l, proc)
			if ok != wantOk || !sameOf(e, wantEvent) || !sameLists(got, want) || agenda.Check(got) != api.OK {
				t.Errorf("list %d, process %d: %d events, %+v, %v", i, proc, len(got), e, ok)
			}
		}
	}
}

func TestDropExample(t *testing.T) {
	l := []api.Event{resume(1, 0, 6), resume(3, 1, 7), event(5, 0, 0, 0), resume(8, 2, 7)}
	got, e, ok := agenda.Drop(l, 7)
	if !ok || e.Time != 3 || !sameLists(got, []api.Event{l[0], l[2], l[3]}) {
		t.Fatal(got, e, ok)
	}
	got, e, ok = agenda.Drop(got, 7)
	if !ok || e.Time != 8 || !sameLists(got, []api.Event{l[0], l[2]}) {
		t.Fatal(got, e, ok)
	}
	if got, e, ok = agenda.Drop(got, 7); ok || len(got) > 0 || !zero(e) {
		t.Fatal(got, e, ok)
	}
}

func TestDropLooksAtTheKindAndA(t *testing.T) {
	l := []api.Event{
		{Time: 1, Kind: api.EStart, A: 7}, {Time: 2, Kind: api.EArrive, A: 7}, {Time: 3, Kind: api.EShift, A: 7}, {Time: 4, Kind: api.EFault, A: 7},
		{Time: 5, Kind: api.EResume, A: 8, B: 7, Site: 7, Prio: 7, From: 7, Seq: 7, Args: []int{7}},
	}
	if got, e, ok := agenda.Drop(l, 7); ok || len(got) > 0 || !zero(e) {
		t.Error(got, e, ok)
	}
	if got, e, ok := agenda.Drop(l, 8); !ok || e.Time != 5 || !sameLists(got, l[:4]) {
		t.Error(got, e, ok)
	}
	if got, e, ok := agenda.Drop(l[4:], 8); !ok || e.Time != 5 || len(got) > 0 {
		t.Error("the only event", got, e, ok)
	}
	if got, e, ok := agenda.Drop([]api.Event{resume(1, 0, 0)}, 0); !ok || e.Time != 1 || len(got) > 0 {
		t.Error("process 0", got, e, ok)
	}
}

func TestDropOfRejectedLists(t *testing.T) {
	for name, c := range badLists() {
		l := append(cloned(c.l), resume(maxTime, 9, 7))
		if got, e, ok := agenda.Drop(l, 7); ok || len(got) > 0 || !zero(e) {
			t.Errorf("%s: %d events, %+v, %v", name, len(got), e, ok)
		}
	}
}

func TestUptoIsTheBeginning(t *testing.T) {
	for i, l := range goodLists() {
		times := numbers()
		for j := 0; j < len(l); j += 1 + len(l)/30 {
			times = append(times, l[j].Time-1, l[j].Time, l[j].Time+1)
		}
		for _, at := range times {
			n := 0
			for n < len(l) && l[n].Time <= at {
				n++
			}
			if got := agenda.Upto(l, at); !sameLists(got, l[:n]) {
				t.Fatalf("list %d up to %d: %d events, not %d", i, at, len(got), n)
			}
		}
	}
}

func TestUptoTakesAllEventsOfATime(t *testing.T) {
	l := []api.Event{event(1, 0, 0, 0), event(4, 0, 0, 1), event(4, 100, 15, 2), event(9, 0, 0, 3)}
	for at, want := range map[int]int{math.MinInt: 0, -1: 0, 0: 0, 1: 1, 3: 1, 4: 3, 5: 3, 8: 3, 9: 4, 10: 4, maxTime: 4, math.MaxInt: 4} {
		if got := agenda.Upto(l, at); !sameLists(got, l[:want]) {
			t.Errorf("up to %d: %v", at, got)
		}
	}
}

func TestUptoOfRejectedLists(t *testing.T) {
	for name, c := range badLists() {
		if got := agenda.Upto(c.l, math.MaxInt); len(got) > 0 {
			t.Errorf("%s: %d events", name, len(got))
		}
	}
}

// R3

func TestNilAndEmptyAreEquivalent(t *testing.T) {
	e := resume(1, 2, 3)
	for _, l := range [][]api.Event{nil, {}, make([]api.Event, 0, 5)} {
		for _, args := range [][]int{nil, {}} {
			e.Args = args
			if agenda.Event(e) != api.OK || agenda.Check(l) != api.OK || agenda.Check([]api.Event{e}) != api.OK {
				t.Error("not accepted")
			}
			if got, errno := agenda.Put(l, e); errno != api.OK || len(got) != 1 || !agenda.Same(got[0], e) {
				t.Error("Put", got, errno)
			}
		}
		if _, _, ok := agenda.Next(l); ok {
			t.Error("Next")
		}
		if _, _, ok := agenda.Drop(l, 0); ok {
			t.Error("Drop")
		}
		if len(agenda.Upto(l, 5)) > 0 {
			t.Error("Upto")
		}
	}
}

// R4

// roomy is a list with room behind its events and behind their Args, and what is in this room.
func roomy() []api.Event {
	list := make([]api.Event, 6, 12)
	for i := range cap(list) {
		list[:12][i] = resume(2*i+1, i, i)
		list[:12][i].Args = []int{i, i + 1, -5}[:2]
	}
	return list
}

// allOf has the text of each event of a list, and of the room behind it and behind its Args.
func allOf(list []api.Event) []string {
	var texts []string
	for _, e := range list[:cap(list)] {
		texts = append(texts, fmt.Sprintf("%+v %v", e, e.Args[:cap(e.Args)]))
	}
	return texts
}

func TestArgumentsAreNotChanged(t *testing.T) {
	l := roomy()
	before := allOf(l)
	e := resume(4, 99, 5)
	e.Args = []int{1, 2}
	agenda.Same(l[0], l[1])
	agenda.Check(l)
	agenda.Put(l, e)
	agenda.Put(l, l[2])
	agenda.Next(l)
	agenda.Drop(l, 3)
	agenda.Drop(l, 99)
	agenda.Upto(l, 5)
	if !slices.Equal(allOf(l), before) || !sameOf(e, api.Event{Time: 4, Prio: 1, Seq: 99, Kind: api.EResume, A: 5, Args: []int{1, 2}}) {
		t.Error("an argument was changed")
	}
}

// overwrite changes every event of a list, and appends to it and to its Args.
func overwrite(list []api.Event) {
	for i := range list {
		spoil(&list[i])
	}
	_ = append(list, api.Event{Time: -9, Args: []int{-9}})
}

func spoil(e *api.Event) {
	for i := range e.Args {
		e.Args[i] = -99
	}
	_ = append(e.Args, -99)
	e.Time, e.Kind = -99, -99
}

func TestResultsShareNoMemoryWithArguments(t *testing.T) {
	l := roomy()
	before := allOf(l)
	e := resume(4, 99, 5)
	args := []int{1, 2, 3}
	e.Args = args[:2]
	more, _ := agenda.Put(l, e)
	overwrite(more)
	first, others, _ := agenda.Next(l)
	spoil(&first)
	overwrite(others)
	kept, dropped, _ := agenda.Drop(l, 3)
	spoil(&dropped)
	overwrite(kept)
	overwrite(agenda.Upto(l, 5))
	overwrite(agenda.Upto(l, maxTime))
	if !slices.Equal(allOf(l), before) || !slices.Equal(args, []int{1, 2, 3}) {
		t.Error("an argument was changed through a result")
	}
}

func TestPartsOfAResultShareNoMemory(t *testing.T) {
	shared := []int{1, 2, 3}
	l := []api.Event{resume(1, 0, 7), resume(2, 1, 7), resume(3, 2, 7)}
	for i := range l {
		l[i].Args = shared
	}
	check := func(name string, e api.Event, list []api.Event) {
		spoil(&e)
		for i := range list {
			if !slices.Equal(list[i].Args, shared) {
				t.Errorf("%s: event %d was changed through another one", name, i)
			}
			spoil(&list[i])
		}
	}
	first, others, _ := agenda.Next(l)
	check("Next", first, others)
	kept, dropped, _ := agenda.Drop(l, 7)
	check("Drop", dropped, kept)
	check("Upto", api.Event{}, agenda.Upto(l, 9))
	more, _ := agenda.Put(l[:2], l[2])
	check("Put", api.Event{}, more)
}

func TestEqualCallsHaveEqualResults(t *testing.T) {
	for i, l := range goodLists() {
		again := cloned(l)
		a, errnoA := agenda.Put(l, full())
		b, errnoB := agenda.Put(again, full())
		c, d := agenda.Upto(l, 7), agenda.Upto(again, 7)
		if errnoA != errnoB || !sameLists(a, b) || !sameLists(c, d) {
			t.Errorf("list %d", i)
		}
	}
}
