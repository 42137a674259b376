package gate

import (
	"reflect"
	"slices"
	"strconv"
	"testing"

	"stitchery/api"
	"stitchery/mean"
	"stitchery/merge"
	"stitchery/query"
	"stitchery/schema"
	"stitchery/serve"
)

// dice answers numbers that look random, and are the same in each run.
type dice uint64

func (d *dice) below(n int) int {
	*d = *d*6364136223846793005 + 1442695040888963407
	return int(uint64(*d)>>33) % n
}

// keyOf answers one of few keys, so that things meet; of some there is no thing.
func (d *dice) keyOf() string { return "k" + strconv.Itoa(d.below(7)) }

// service answers a service of some of the types t0 to t2, whose fields' names hang on its number: services go together.
func (d *dice) service(n int) api.Service {
	var s api.Service
	for i := range 1 + d.below(3) {
		s.Types = append(s.Types, typ("t"+strconv.Itoa(i)))
	}
	for i := range s.Types {
		for j := range d.below(5) {
			f := word("f" + strconv.Itoa(n) + "x" + strconv.Itoa(j))
			if f.Kind = 1 + d.below(3); f.Kind != api.Word {
				f.Type = s.Types[d.below(len(s.Types))].Name
			}
			s.Types[i].Fields = append(s.Types[i].Fields, f)
		}
	}
	for _, t := range s.Types {
		for k := range 7 {
			if d.below(3) > 0 {
				s.Things = append(s.Things, d.thing(t, "k"+strconv.Itoa(k)))
			}
		}
	}
	if d.below(2) > 0 && len(s.Types) > 1 {
		s.Changes = []api.Change{callType("t0", "t9"), callType("t1", "t0"), callType("t9", "t1")}
	}
	if fields := s.Types[0].Fields; d.below(2) > 0 && len(fields) > 1 {
		seen := "t0"
		if len(s.Changes) > 0 {
			seen = "t1"
		}
		s.Changes = append(s.Changes, callField(seen, fields[0].Name, "g"), callField(seen, fields[1].Name, fields[0].Name), hide(seen, "g"))
	}
	return s
}

func (d *dice) thing(t api.Type, key string) api.Thing {
	x := api.Thing{Type: t.Name, Key: key}
	for _, f := range t.Fields {
		v := api.Val{Field: f.Name}
		switch f.Kind {
		case api.Word:
			v.Text = "of " + key + strconv.Itoa(d.below(3))
		case api.One:
			v.Keys = []string{d.keyOf()}[:d.below(2)]
		case api.List:
			for range d.below(4) {
				v.Keys = append(v.Keys, d.keyOf())
			}
		}
		x.Vals = append(x.Vals, v)
	}
	return x
}

// picks answers picks of a part; none, if there is nothing to be picked so deep.
func (d *dice) picks(parts []api.Part, name string, deep int) []api.Pick {
	fields := parts[merge.Find(parts, name)].Type.Fields
	var l []api.Pick
	for i := range 4 {
		if len(fields) == 0 {
			break
		}
		f := fields[d.below(len(fields))]
		p := api.Pick{As: "p" + strconv.Itoa(i), Field: f.Name}
		if f.Kind != api.Word {
			if deep == 4 {
				continue
			}
			if p.Picks = d.picks(parts, f.Type, deep+1); len(p.Picks) == 0 {
				continue
			}
		}
		l = append(l, p)
	}
	return l
}

// plainRequests are the requests by the words of chapter 7, of things as they stand in their services.
func plainRequests(l []api.Service, parts []api.Part, name string, keys []string, picks []api.Pick) []api.Request {
	part := parts[merge.Find(parts, name)]
	var out []api.Request
	for _, home := range part.Homes {
		q := api.Request{Service: home.Service, Type: home.Type, Keys: keys}
		for _, p := range picks {
			o := part.Owners[schema.Field(part.Type.Fields, p.Field)]
			if o.Service == home.Service && !slices.Contains(q.Fields, o.Field) {
				q.Fields = append(q.Fields, o.Field)
			}
		}
		out = append(out, q)
	}
	for _, p := range picks {
		i := schema.Field(part.Type.Fields, p.Field)
		f, o := part.Type.Fields[i], part.Owners[i]
		var next []string
		for _, key := range keys {
			for _, to := range keysOfThing(l[o.Service], o, key) {
				if !slices.Contains(next, to) {
					next = append(next, to)
				}
			}
		}
		if f.Kind != api.Word && len(next) > 0 {
			out = append(out, plainRequests(l, parts, f.Type, next, p.Picks)...)
		}
	}
	return out
}

func keysOfThing(s api.Service, o api.Owner, key string) []string {
	for _, x := range s.Things {
		for _, v := range x.Vals {
			if x.Type == o.Type && x.Key == key && v.Field == o.Field {
				return v.Keys
			}
		}
	}
	return nil
}

// TestAsInOnePlace: what services say, put together, is what is asked for, and nothing but what that takes is asked.
func TestAsInOnePlace(t *testing.T) {
	d := dice(1)
	there, gone := 0, 0
	for range 3000 {
		l := make([]api.Service, 1+d.below(4))
		for i := range l {
			l[i] = d.service(i)
		}
		parts, f := merge.All(l)
		if f.Err != api.OK {
			t.Fatal(f)
		}
		a := api.Ask{Type: parts[d.below(len(parts))].Type.Name, Key: d.keyOf()}
		a.Picks = d.picks(parts, a.Type, 1)
		if n := countPicks(a.Picks); n == 0 || n > api.MaxPicks {
			continue
		}
		want, wantErr := mean.Mean(l, a)
		got, requests, err := Run(l, a)
		if err != wantErr || !reflect.DeepEqual(got, want) {
			t.Fatalf("%v %s, not %v %s", err, tell(got), wantErr, tell(want))
		}
		if err != api.OK {
			gone++
			continue
		}
		there++
		plain := plainRequests(l, parts, a.Type, []string{a.Key}, a.Picks)
		if tellRequests(requests) != tellRequests(plain) {
			t.Fatalf("%s, not %s", tellRequests(requests), tellRequests(plain))
		}
		for _, q := range requests {
			if err := serve.Wrong(l, q); err != api.OK {
				t.Fatalf("%v with %v", err, q)
			}
		}
	}
	if there < 1000 || gone < 50 {
		t.Errorf("%d are there, and %d are not: that is too few", there, gone)
	}
}

func countPicks(l []api.Pick) int {
	n := len(l)
	for _, p := range l {
		n += countPicks(p.Picks)
	}
	return n
}

// asks are texts that are asked of services in the tests below.
var asks = []string{
	"user(ann){name town boss{name} under{name boss{name}} posts{title author{name}}}",
	"user(bob){name boss{name} u:under{name} posts{title}}",
	"user(cid){under{name} c:boss{under{name under{name}}} posts{title} town}",
	"user(gus){name boss{name} under{name}}",
	"post(ann){author{under{posts{title}} name} title t:title}",
}

// TestWhateverOrder: services go together in whatever order, and there are as many requests.
func TestWhateverOrder(t *testing.T) {
	a, b, c := names(), bosses(), guests()
	for _, s := range asks {
		want, requests, err := Run(services(), parse(t, s))
		if err != api.OK {
			t.Fatalf("%s: %v", s, err)
		}
		for _, l := range [][]api.Service{{a, c, b}, {b, a, c}, {b, c, a}, {c, a, b}, {c, b, a}, {{}, a, {}, b, c}} {
			got, others, err := Run(l, parse(t, s))
			if err != api.OK || tell(got) != tell(want) || len(others) != len(requests) {
				t.Errorf("%s: %v %s, not %s", s, err, tell(got), tell(want))
			}
		}
	}
}

// TestHidden: whatever is asked, what is hidden is never asked of a service.
func TestHidden(t *testing.T) {
	for _, s := range asks {
		_, requests, _ := Run(services(), parse(t, s))
		for _, q := range requests {
			if q.Service == 2 && len(q.Fields) > 0 {
				t.Errorf("%s: %s", s, tellRequests(requests))
			}
		}
	}
}

// most answers as many services, things and keys as may be.
func most() []api.Service {
	l := make([]api.Service, api.MaxServices)
	for i := range l {
		l[i].Types = []api.Type{typ("t", many("to"+strconv.Itoa(i), "t"), word("w"+strconv.Itoa(i)))}
		for j := range api.MaxThings {
			var to []string
			for k := range api.MaxKeys {
				to = append(to, "k"+strconv.Itoa((j+k*i+1)%api.MaxThings))
			}
			l[i].Things = append(l[i].Things, thing("t", "k"+strconv.Itoa(j), keys("to"+strconv.Itoa(i), to...), text("w"+strconv.Itoa(i), "of "+strconv.Itoa(j))))
		}
	}
	return l
}

// TestMost: there are as many requests as lists, not as things.
func TestMost(t *testing.T) {
	l, a := most(), parse(t, "t(k0){to4{to1{to2{w3 w0} w1}}}")
	want, _ := mean.Mean(l, a)
	got, requests, err := Run(l, a)
	if err != api.OK || !reflect.DeepEqual(got, want) {
		t.Fatalf("%v, %d of them", err, len(got))
	}
	if len(requests) != 4*api.MaxServices {
		t.Fatalf("%d requests", len(requests))
	}
	for i, n := range []int{1, 15, 60, 60} {
		for _, q := range requests[5*i : 5*i+5] {
			if len(q.Keys) != n {
				t.Errorf("list %d: %d keys, not %d", i, len(q.Keys), n)
			}
		}
	}
}

// roomy answers services and what is asked, with spare room behind each list that would change the answer.
func roomy() ([]api.Service, api.Ask) {
	l := append(services(), names())[:3]
	for i := range l {
		s := &l[i]
		for j := range s.Types {
			f := s.Types[j].Fields
			s.Types[j].Fields = append(f, word("spare"))[:len(f)]
		}
		for j := range s.Things {
			v := s.Things[j].Vals
			for k := range v {
				v[k].Keys = append(v[k].Keys, "ann")[:len(v[k].Keys)]
			}
			s.Things[j].Vals = append(v, text("spare", ""))[:len(v)]
		}
		s.Types = append(s.Types, typ("spare"))[:len(s.Types)]
		s.Changes = append(s.Changes, callType("spare", "user"))[:len(s.Changes)]
		s.Things = append(s.Things, thing("user", "zoe", text("name", "spare")))[:len(s.Things)]
	}
	a, _ := query.Parse("user(ann){name boss{name} under{name boss{posts{title}}}}")
	a.Picks[2].Picks = append(a.Picks[2].Picks, api.Pick{Field: "spare"})[:2]
	a.Picks = append(a.Picks, api.Pick{Field: "spare"})[:3]
	return l, a
}

const roomyTold = `name=word "Ann", boss=null one, ` +
	`under=list [name=word, boss=null one][name=null word, boss=one {posts=list [title=word "One"][title=word "Two"]}][name=word, boss=null one]` +
	` / 0 user(ann){name}; 1 man(ann){boss under}; 2 user(ann){}; ` +
	`0 user(bob cid zoe){name}; 1 man(bob cid zoe){boss}; 2 user(bob cid zoe){}; ` +
	`0 user(ann){}; 1 man(ann){posts}; 2 user(ann){}; 1 post(ann two){title}`

// answer is all that Run answers.
type answer struct {
	got      []api.Got
	requests []api.Request
	err      api.Errno
}

func run(l []api.Service, a api.Ask) *answer {
	got, requests, err := Run(l, a)
	return &answer{got, requests, err}
}

func (x *answer) told() string { return tell(x.got) + " / " + tellRequests(x.requests) }

// wide answers a copy of all that there is, up to the ends of the spare room.
func wide(l []api.Service, a api.Ask) ([]api.Service, api.Ask) {
	l = slices.Clone(l[:cap(l)])
	for i := range l {
		s := &l[i]
		s.Types, s.Things = slices.Clone(s.Types[:cap(s.Types)]), slices.Clone(s.Things[:cap(s.Things)])
		s.Changes = slices.Clone(s.Changes[:cap(s.Changes)])
		for j, x := range s.Types {
			s.Types[j].Fields = slices.Clone(x.Fields[:cap(x.Fields)])
		}
		for j, x := range s.Things {
			s.Things[j].Vals = slices.Clone(x.Vals[:cap(x.Vals)])
			for k, v := range s.Things[j].Vals {
				s.Things[j].Vals[k].Keys = slices.Clone(v.Keys[:cap(v.Keys)])
			}
		}
	}
	a.Picks = widePicks(a.Picks)
	return l, a
}

func widePicks(l []api.Pick) []api.Pick {
	l = slices.Clone(l[:cap(l)])
	for i := range l {
		l[i].Picks = widePicks(l[i].Picks)
	}
	return l
}

func TestOnlyRead(t *testing.T) {
	l, a := roomy()
	wantL, wantA := wide(l, a)
	if x := run(l, a); x.err != api.OK || x.told() != roomyTold {
		t.Errorf("%v %s, not %s", x.err, x.told(), roomyTold)
	}
	a.Key = "zoe"
	if x := run(l, a); x.err != api.ErrNone || x.told() != " / " {
		t.Errorf("a thing in the spare room: %v %s", x.err, x.told())
	}
	a.Key = "ann"
	if gotL, gotA := wide(l, a); !reflect.DeepEqual(gotL, wantL) || !reflect.DeepEqual(gotA, wantA) {
		t.Error("what was handed in was changed")
	}
}

// TestNilAndEmpty: lists without entries may be nil, or empty, wherever they stand.
func TestNilAndEmpty(t *testing.T) {
	l, a := two(), parse(t, asks[2])
	want := run(l, a)
	l[0].Changes = []api.Change{}
	for i := range l[1].Things {
		for j, v := range l[1].Things[i].Vals {
			l[1].Things[i].Vals[j].Keys = append([]string{}, v.Keys...)
		}
	}
	l = append(l, api.Service{Types: []api.Type{}, Changes: []api.Change{}, Things: []api.Thing{}})
	a.Picks[3].Picks = []api.Pick{}
	if x := run(l, a); x.err != api.OK || x.told() != want.told() {
		t.Errorf("%v %s, not %s", x.err, x.told(), want.told())
	}
}

// TestNewMemory: what is answered stays as it is when what was handed in changes, and the other way round, and so do its lists beside each other.
func TestNewMemory(t *testing.T) {
	l, a := roomy()
	x := run(l, a)
	for i := range l {
		for _, thing := range l[i].Things {
			for _, v := range thing.Vals {
				clear(v.Keys)
			}
			clear(thing.Vals)
		}
		clear(l[i].Things)
	}
	clear(a.Picks)
	if x.told() != roomyTold {
		t.Errorf("what was handed in is kept: %s", x.told())
	}

	l, a = roomy()
	wantL, wantA := wide(l, a)
	x, next := run(l, a), run(l, a)
	spoil(t, x)
	if next.told() != roomyTold {
		t.Error("two answers share memory")
	}
	if gotL, gotA := wide(l, a); !reflect.DeepEqual(gotL, wantL) || !reflect.DeepEqual(gotA, wantA) {
		t.Error("what was handed in is changed with the answer")
	}
}

// spoil has the answer hold a copy of one list after the other, spoils the list, its spare room too, and looks whether the answer still stands.
func spoil(t *testing.T, x *answer) {
	t.Helper()
	spoilGot(t, x, &x.got)
	for i := range x.requests {
		spoilOne(t, x, &x.requests[i].Keys)
		spoilOne(t, x, &x.requests[i].Fields)
	}
	spoilOne(t, x, &x.requests)
}

func spoilGot(t *testing.T, x *answer, l *[]api.Got) {
	t.Helper()
	for i := range *l {
		g := &(*l)[i]
		spoilGot(t, x, &g.Sub)
		for j := range g.Subs {
			spoilGot(t, x, &g.Subs[j])
		}
		spoilOne(t, x, &g.Subs)
	}
	spoilOne(t, x, l)
}

func spoilOne[T any](t *testing.T, x *answer, l *[]T) {
	t.Helper()
	old := *l
	*l = slices.Clone(old)
	clear(old[:cap(old)])
	if x.told() != roomyTold {
		t.Fatalf("lists of an answer share memory: %s", x.told())
	}
}
