package mean

import (
	"reflect"
	"slices"
	"strconv"
	"testing"

	"stitchery/api"
	"stitchery/query"
)

// asks are texts that are asked of services in the tests below.
var asks = []string{
	"user(ann){name town boss{name} under{name boss{name}} posts{title author{name}}}",
	"user(bob){name boss{name} u:under{name} posts{title}}",
	"user(cid){under{name} c:boss{under{name under{name}}} posts{title} town}",
	"user(gus){name boss{name} under{name}}",
	"post(ann){author{under{posts{title}} name} title t:title}",
}

func TestWhateverOrder(t *testing.T) {
	a, b, c := names(), bosses(), guests()
	for _, s := range asks {
		want, err := Mean(services(), parse(t, s))
		if err != api.OK {
			t.Fatalf("%s: %v", s, err)
		}
		for _, l := range [][]api.Service{{a, c, b}, {b, a, c}, {b, c, a}, {c, a, b}, {c, b, a}, {{}, a, {}, b, c}} {
			if got, err := Mean(l, parse(t, s)); err != api.OK || tell(got) != tell(want) {
				t.Errorf("%s: %v %s, not %s", s, err, tell(got), tell(want))
			}
		}
	}
}

func TestPickByPick(t *testing.T) {
	for _, s := range asks {
		a := parse(t, s)
		want, _ := Mean(services(), a)
		var got []api.Got
		for i := range a.Picks {
			g, err := Mean(services(), api.Ask{Type: a.Type, Key: a.Key, Picks: a.Picks[i : i+1]})
			if err != api.OK {
				t.Errorf("%s, pick %d: %v", s, i, err)
			}
			got = append(got, g...)
		}
		if tell(got) != tell(want) {
			t.Errorf("%s: %s, not %s", s, tell(got), tell(want))
		}
	}
}

// TestFurtherIn: what a list's picks get of a key is what they get of it by itself.
func TestFurtherIn(t *testing.T) {
	picks := parse(t, "user(ann){name under{name} posts{author{name}}}").Picks
	outer := api.Ask{Type: "user", Key: "ann", Picks: []api.Pick{{Field: "under", Picks: picks}}}
	got, err := Mean(services(), outer)
	if err != api.OK || len(got) != 1 || len(got[0].Subs) != 3 {
		t.Fatalf("%v %s", err, tell(got))
	}
	for i, key := range []string{"bob", "cid", "bob"} {
		want, err := Mean(services(), api.Ask{Type: "user", Key: key, Picks: picks})
		if err != api.OK || tell(got[0].Subs[i]) != tell(want) {
			t.Errorf("%s: %v %s, not %s", key, err, tell(got[0].Subs[i]), tell(want))
		}
	}
}

// TestOnePlace: services that have all things between them tell what one tells that has all.
func TestOnePlace(t *testing.T) {
	all := api.Service{Types: []api.Type{typ("user", word("name"), one("boss", "user"), list("under", "user"))}}
	parted := make([]api.Service, 3)
	for i, f := range all.Types[0].Fields {
		parted[i].Types = []api.Type{typ("user", f)}
	}
	people := []string{"ann", "bob", "cid", "dan", "eve"}
	for i, key := range people {
		next, last := people[(i+1)%5], people[(i+3)%5]
		vals := []api.Val{text("name", "of "+key), keys("boss", next), keys("under", last, "zoe", key)}
		all.Things = append(all.Things, thing("user", key, vals...))
		for j := range parted {
			parted[j].Things = append(parted[j].Things, thing("user", key, vals[j]))
		}
	}
	for _, key := range people {
		a := parse(t, "user("+key+"){under{name boss{name under{name}}} name b:boss{under{boss{name}}}}")
		want, err := Mean([]api.Service{all}, a)
		if err != api.OK {
			t.Fatal(err)
		}
		if got, err := Mean(parted, a); err != api.OK || tell(got) != tell(want) {
			t.Errorf("%s: %v %s, not %s", key, err, tell(got), tell(want))
		}
	}
}

// TestMost: as many services, things and keys as may be, and a long answer.
func TestMost(t *testing.T) {
	l := make([]api.Service, api.MaxServices)
	for i := range l {
		l[i].Types = []api.Type{typ("t", list("to"+strconv.Itoa(i), "t"), word("w"+strconv.Itoa(i)))}
		for j := range api.MaxThings {
			var to []string
			for k := range api.MaxKeys {
				to = append(to, "k"+strconv.Itoa((j+k*i+1)%api.MaxThings))
			}
			l[i].Things = append(l[i].Things, thing("t", "k"+strconv.Itoa(j), keys("to"+strconv.Itoa(i), to...), text("w"+strconv.Itoa(i), "of "+strconv.Itoa(j))))
		}
	}
	got, err := Mean(l, parse(t, "t(k0){to4{to1{to2{w3 w0}}}}"))
	if err != api.OK || len(got) != 1 || len(got[0].Subs) != api.MaxKeys {
		t.Fatalf("%v, %d of them", err, len(got))
	}
	for i := range api.MaxKeys {
		for j := range api.MaxKeys {
			subs := got[0].Subs[i][0].Subs[j][0].Subs
			for k, sub := range subs {
				want := "of " + strconv.Itoa((4*i+1+j+1+2*k+1)%api.MaxThings)
				if len(subs) != api.MaxKeys || len(sub) != 2 || sub[0].Text != want || sub[1].Text != want {
					t.Fatalf("%d, %d, %d: %s, not %s", i, j, k, tell(sub), want)
				}
			}
		}
	}
}

// roomy answers services and what is asked, with spare room behind each list that would change the answer.
func roomy() ([]api.Service, api.Ask) {
	l := append(services(), names())[:3]
	for i := range l {
		s := &l[i]
		for j := range s.Types {
			f := s.Types[j].Fields
			s.Types[j].Fields = append(f, word("spare"))[:len(f)]
		}
		for j := range s.Things {
			v := s.Things[j].Vals
			for k := range v {
				v[k].Keys = append(v[k].Keys, "ann")[:len(v[k].Keys)]
			}
			s.Things[j].Vals = append(v, text("spare", ""))[:len(v)]
		}
		s.Types = append(s.Types, typ("spare"))[:len(s.Types)]
		s.Changes = append(s.Changes, callType("spare", "user"))[:len(s.Changes)]
		s.Things = append(s.Things, thing("user", "zoe", text("name", "spare")))[:len(s.Things)]
	}
	a, _ := query.Parse("user(ann){name boss{name} under{name boss{posts{title}}}}")
	a.Picks[2].Picks = append(a.Picks[2].Picks, api.Pick{Field: "spare"})[:2]
	a.Picks = append(a.Picks, api.Pick{Field: "spare"})[:3]
	return l, a
}

const roomyTold = `name=word "Ann", boss=null one, ` +
	`under=list [name=word, boss=null one][name=null word, boss=one {posts=list [title=word "One"][title=word "Two"]}][name=word, boss=null one]`

// wide answers a copy of all that there is, up to the ends of the spare room.
func wide(l []api.Service, a api.Ask) ([]api.Service, api.Ask) {
	l = slices.Clone(l[:cap(l)])
	for i := range l {
		s := &l[i]
		s.Types, s.Things = slices.Clone(s.Types[:cap(s.Types)]), slices.Clone(s.Things[:cap(s.Things)])
		s.Changes = slices.Clone(s.Changes[:cap(s.Changes)])
		for j, x := range s.Types {
			s.Types[j].Fields = slices.Clone(x.Fields[:cap(x.Fields)])
		}
		for j, x := range s.Things {
			s.Things[j].Vals = slices.Clone(x.Vals[:cap(x.Vals)])
			for k, v := range s.Things[j].Vals {
				s.Things[j].Vals[k].Keys = slices.Clone(v.Keys[:cap(v.Keys)])
			}
		}
	}
	a.Picks = widePicks(a.Picks)
	return l, a
}

func widePicks(l []api.Pick) []api.Pick {
	l = slices.Clone(l[:cap(l)])
	for i := range l {
		l[i].Picks = widePicks(l[i].Picks)
	}
	return l
}

func TestOnlyRead(t *testing.T) {
	l, a := roomy()
	wantL, wantA := wide(l, a)
	if got, err := Mean(l, a); err != api.OK || tell(got) != roomyTold {
		t.Errorf("%v %s, not %s", err, tell(got), roomyTold)
	}
	a.Key = "zoe"
	if got, err := Mean(l, a); err != api.ErrNone || got != nil {
		t.Errorf("a thing in the spare room: %v %s", err, tell(got))
	}
	a.Key = "ann"
	if gotL, gotA := wide(l, a); !reflect.DeepEqual(gotL, wantL) || !reflect.DeepEqual(gotA, wantA) {
		t.Error("what was handed in was changed")
	}
}

// TestNilAndEmpty: lists without entries may be nil, or empty, wherever they stand.
func TestNilAndEmpty(t *testing.T) {
	l, a := []api.Service{names(), bosses()}, parse(t, asks[2])
	want, _ := Mean(l, a)
	l[0].Changes = []api.Change{}
	for i := range l[1].Things {
		for j, v := range l[1].Things[i].Vals {
			l[1].Things[i].Vals[j].Keys = append([]string{}, v.Keys...)
		}
	}
	l = append(l, api.Service{Types: []api.Type{}, Changes: []api.Change{}, Things: []api.Thing{}})
	a.Picks[3].Picks = []api.Pick{}
	if got, err := Mean(l, a); err != api.OK || tell(got) != tell(want) {
		t.Errorf("%v %s, not %s", err, tell(got), tell(want))
	}
}

// TestNewMemory: what is answered stays as it is when what was handed in changes, and the other way round, and so do its lists beside each other.
func TestNewMemory(t *testing.T) {
	l, a := roomy()
	got, _ := Mean(l, a)
	for i := range l {
		for _, x := range l[i].Things {
			clear(x.Vals)
		}
		clear(l[i].Things)
	}
	clear(a.Picks)
	if tell(got) != roomyTold {
		t.Errorf("what was handed in is kept: %s", tell(got))
	}

	l, a = roomy()
	wantL, wantA := wide(l, a)
	got, _ = Mean(l, a)
	next, _ := Mean(l, a)
	spoil(t, &got, func() string { return tell(got) })
	if tell(next) != roomyTold {
		t.Error("two answers share memory")
	}
	if gotL, gotA := wide(l, a); !reflect.DeepEqual(gotL, wantL) || !reflect.DeepEqual(gotA, wantA) {
		t.Error("what was handed in is changed with the answer")
	}
}

// spoil has the answer hold a copy of one list after the other, spoils the list, its spare room too, and looks whether the answer still stands.
func spoil(t *testing.T, l *[]api.Got, told func() string) {
	t.Helper()
	for i := range *l {
		g := &(*l)[i]
		spoil(t, &g.Sub, told)
		for j := range g.Subs {
			spoil(t, &g.Subs[j], told)
		}
		spoilOne(t, &g.Subs, told)
	}
	spoilOne(t, l, told)
}

func spoilOne[T any](t *testing.T, l *[]T, told func() string) {
	t.Helper()
	old := *l
	*l = slices.Clone(old)
	clear(old[:cap(old)])
	if s := told(); s != roomyTold {
		t.Fatalf("lists of an answer share memory: %s", s)
	}
}
