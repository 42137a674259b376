package gate

import (
	"strconv"
	"strings"
	"testing"

	"stitchery/api"
	"stitchery/query"
)

func word(name string) api.Field { return api.Field{Name: name, Kind: api.Word} }

func one(name, typ string) api.Field { return api.Field{Name: name, Kind: api.One, Type: typ} }

func many(name, typ string) api.Field { return api.Field{Name: name, Kind: api.List, Type: typ} }

func typ(name string, fields ...api.Field) api.Type { return api.Type{Name: name, Fields: fields} }

func thing(typ, key string, vals ...api.Val) api.Thing {
	return api.Thing{Type: typ, Key: key, Vals: vals}
}

func text(field, s string) api.Val { return api.Val{Field: field, Text: s} }

func keys(field string, l ...string) api.Val { return api.Val{Field: field, Keys: l} }

func callType(typ, to string) api.Change {
	return api.Change{Kind: api.CallType, Type: typ, To: to}
}

func callField(typ, field, to string) api.Change {
	return api.Change{Kind: api.CallField, Type: typ, Field: field, To: to}
}

func hide(typ, field string) api.Change {
	return api.Change{Kind: api.Hide, Type: typ, Field: field}
}

// names is a service that knows users' names; of cid it knows nothing.
func names() api.Service {
	return api.Service{
		Types: []api.Type{typ("user", word("name"), word("town"))},
		Things: []api.Thing{
			thing("user", "ann", text("name", "Ann"), text("town", "Ulm")),
			thing("user", "bob", text("name", ""), text("town", "Rom")),
			thing("user", "dan", text("name", "Dan"), text("town", "")),
		},
	}
}

// bosses is a service that knows who is whose boss, and posts; of bob and dan it knows nothing.
func bosses() api.Service {
	return api.Service{
		Types: []api.Type{
			typ("post", word("title"), one("by", "man")),
			typ("man", one("boss", "man"), many("under", "man"), many("posts", "post")),
		},
		Changes: []api.Change{callType("man", "user"), callField("post", "by", "author")},
		Things: []api.Thing{
			thing("man", "ann", keys("boss"), keys("under", "bob", "cid", "zoe", "bob"), keys("posts", "ann", "two")),
			thing("man", "cid", keys("boss", "ann"), keys("under"), keys("posts", "lost")),
			thing("man", "eve", keys("boss", "zoe"), keys("under", "eve"), keys("posts")),
			thing("man", "fay", keys("boss", "bob"), keys("under", "eve", "cid", "ann"), keys("posts", "two")),
			thing("post", "ann", text("title", "One"), keys("by", "ann")),
			thing("post", "two", text("title", "Two"), keys("by")),
		},
	}
}

// guests is a service that has users, and shows none of their fields.
func guests() api.Service {
	return api.Service{
		Types:   []api.Type{typ("user", word("name"))},
		Changes: []api.Change{hide("user", "name")},
		Things:  []api.Thing{thing("user", "gus", text("name", "hidden")), thing("user", "ann", text("name", "hidden"))},
	}
}

func services() []api.Service { return []api.Service{names(), bosses(), guests()} }

// two are services without the one that shows nothing.
func two() []api.Service { return []api.Service{names(), bosses()} }

func parse(t *testing.T, s string) api.Ask {
	t.Helper()
	a, f := query.Parse(s)
	if f.Err != api.OK {
		t.Fatalf("%s: %v", s, f)
	}
	return a
}

// tell writes what is got, each bit of it, so that it can be read beside what was asked.
func tell(l []api.Got) string {
	var out []string
	for _, g := range l {
		s := g.Name + "="
		if g.Null {
			s += "null "
		}
		s += [...]string{"", "word ", "one ", "list "}[g.Kind]
		if g.Text != "" {
			s += strconv.Quote(g.Text)
		}
		if g.Sub != nil {
			s += "{" + tell(g.Sub) + "}"
		}
		for _, sub := range g.Subs {
			s += "[" + tell(sub) + "]"
		}
		out = append(out, strings.TrimSuffix(s, " "))
	}
	return strings.Join(out, ", ")
}

// tellRequests writes requests, as in `0 user(ann bob){name town}`, with `; ` between them.
func tellRequests(l []api.Request) string {
	var out []string
	for _, q := range l {
		out = append(out, strconv.Itoa(q.Service)+" "+q.Type+"("+strings.Join(q.Keys, " ")+"){"+strings.Join(q.Fields, " ")+"}")
	}
	return strings.Join(out, "; ")
}

type runCase struct{ what, ask, got, requests string }

func lookRuns(t *testing.T, l []api.Service, cases []runCase) {
	t.Helper()
	for _, c := range cases {
		got, requests, err := Run(l, parse(t, c.ask))
		if err != api.OK || tell(got) != c.got {
			t.Errorf("%s: %s: %v %s, not %s", c.what, c.ask, err, tell(got), c.got)
		}
		if s := tellRequests(requests); s != c.requests {
			t.Errorf("%s: %s asks %s, not %s", c.what, c.ask, s, c.requests)
		}
	}
}

func TestWords(t *testing.T) {
	lookRuns(t, services(), []runCase{
		{"each home is asked, whatever it shows", "user(ann){name}",
			`name=word "Ann"`, "0 user(ann){name}; 1 man(ann){}; 2 user(ann){}"},
		{"fields in the turn of the picks", "user(ann){town name}",
			`town=word "Ulm", name=word "Ann"`, "0 user(ann){town name}; 1 man(ann){}; 2 user(ann){}"},
		{"one field twice is asked for once", "user(ann){n:name town name m:town}",
			`n=word "Ann", town=word "Ulm", name=word "Ann", m=word "Ulm"`, "0 user(ann){name town}; 1 man(ann){}; 2 user(ann){}"},
		{"called as another field", "user(ann){town:name}",
			`town=word "Ann"`, "0 user(ann){name}; 1 man(ann){}; 2 user(ann){}"},
		{"an empty word is not null", "user(bob){name}",
			`name=word`, "0 user(bob){name}; 1 man(bob){}; 2 user(bob){}"},
		{"the owner does not have the thing", "user(cid){name}",
			`name=null word`, "0 user(cid){name}; 1 man(cid){}; 2 user(cid){}"},
		{"a home has it that shows nothing", "user(gus){name}",
			`name=null word`, "0 user(gus){name}; 1 man(gus){}; 2 user(gus){}"},
		{"services that are no homes are not asked", "post(ann){title}",
			`title=word "One"`, "1 post(ann){title}"},
	})
}

func TestOnes(t *testing.T) {
	lookRuns(t, two(), []runCase{
		{"of a thing its name comes from elsewhere: four requests of two services", "user(cid){boss{name}}",
			`boss=one {name=word "Ann"}`, "0 user(cid){}; 1 man(cid){boss}; 0 user(ann){name}; 1 man(ann){}"},
		{"no key: nothing more is asked", "user(ann){boss{name}}",
			`boss=null one`, "0 user(ann){}; 1 man(ann){boss}"},
		{"a key of nothing is asked for", "user(eve){boss{name}}",
			`boss=null one`, "0 user(eve){}; 1 man(eve){boss}; 0 user(zoe){name}; 1 man(zoe){}"},
		{"the owner does not have the thing: nothing more is asked", "user(bob){boss{name} name}",
			`boss=null one, name=word`, "0 user(bob){name}; 1 man(bob){boss}"},
		{"a thing that its owner does not have, but a home", "user(fay){boss{boss{name} name}}",
			`boss=one {boss=null one, name=word}`, "0 user(fay){}; 1 man(fay){boss}; 0 user(bob){name}; 1 man(bob){boss}"},
		{"seen as something else, asked for by its own name", "post(ann){author{name}}",
			`author=one {name=word "Ann"}`, "1 post(ann){by}; 0 user(ann){name}; 1 man(ann){}"},
	})
}

func TestLists(t *testing.T) {
	lookRuns(t, two(), []runCase{
		{"all keys at once, each once, as they stand", "user(ann){under{name}}",
			`under=list [name=word][name=null word][name=word]`,
			"0 user(ann){}; 1 man(ann){under}; 0 user(bob cid zoe){name}; 1 man(bob cid zoe){}"},
		{"no keys: nothing more is asked, and it is not null", "user(cid){under{name}}",
			`under=list`, "0 user(cid){}; 1 man(cid){under}"},
		{"keys of nothing", "user(cid){posts{title}}",
			`posts=list`, "0 user(cid){}; 1 man(cid){posts}; 1 post(lost){title}"},
		{"the owner does not have the thing", "user(bob){under{name}}",
			`under=null list`, "0 user(bob){}; 1 man(bob){under}"},
		{"keys don't rise, but stand as the owner has them", "user(fay){under{town}}",
			`under=list [town=null word][town=null word][town=word "Ulm"]`,
			"0 user(fay){}; 1 man(fay){under}; 0 user(eve cid ann){town}; 1 man(eve cid ann){}"},
		{"one field twice, of other picks, is asked for each time further in", "user(eve){under{name} u:under{town}}",
			`under=list [name=null word], u=list [town=null word]`,
			"0 user(eve){}; 1 man(eve){under}; 0 user(eve){name}; 1 man(eve){}; 0 user(eve){town}; 1 man(eve){}"},
	})
}

func TestNested(t *testing.T) {
	lookRuns(t, two(), []runCase{
		{"keys of all things of a list, each once, in turn", "user(fay){under{under{name}}}",
			`under=list [under=list [name=null word]][under=list][under=list [name=word][name=null word][name=word]]`,
			"0 user(fay){}; 1 man(fay){under}; 0 user(eve cid ann){}; 1 man(eve cid ann){under}; 0 user(eve bob cid zoe){name}; 1 man(eve bob cid zoe){}"},
		{"what is further in comes ahead of the next pick", "user(ann){under{boss{town}} name posts{title author{name}}}",
			`under=list [boss=null one][boss=one {town=word "Ulm"}][boss=null one], name=word "Ann", posts=list [title=word "One", author=one {name=word "Ann"}][title=word "Two", author=null one]`,
			"0 user(ann){name}; 1 man(ann){under posts}; 0 user(bob cid zoe){}; 1 man(bob cid zoe){boss}; 0 user(ann){town}; 1 man(ann){}; " +
				"1 post(ann two){title by}; 0 user(ann){name}; 1 man(ann){}"},
		{"one thing of several is asked for once", "user(fay){under{posts{title}} boss{name}}",
			`under=list [posts=list][posts=list][posts=list [title=word "One"][title=word "Two"]], boss=one {name=word}`,
			"0 user(fay){}; 1 man(fay){under boss}; 0 user(eve cid ann){}; 1 man(eve cid ann){posts}; 1 post(lost ann two){title}; 0 user(bob){name}; 1 man(bob){}"},
		{"as deep as may be", "user(eve){under{under{under{under{under{under{under{name}}}}}}}}",
			`under=list [under=list [under=list [under=list [under=list [under=list [under=list [name=null word]]]]]]]`,
			strings.Repeat("0 user(eve){}; 1 man(eve){under}; ", 7) + "0 user(eve){name}; 1 man(eve){}"},
	})
}

// TestHomesInTurn: homes stand as the services do.
func TestHomesInTurn(t *testing.T) {
	lookRuns(t, []api.Service{guests(), bosses(), {}, names()}, []runCase{
		{"other numbers", "user(cid){name boss{town}}", `name=null word, boss=one {town=word "Ulm"}`,
			"0 user(cid){}; 1 man(cid){boss}; 3 user(cid){name}; 0 user(ann){}; 1 man(ann){}; 3 user(ann){town}"},
	})
}

// TestOwnNames: services are asked by their own names, though another of their types, or fields, is seen so.
func TestOwnNames(t *testing.T) {
	l := []api.Service{
		{
			Types: []api.Type{typ("a", word("x"), word("y"), one("go", "b")), typ("b", word("x"), one("go", "a"))},
			Changes: []api.Change{
				callType("a", "c"), callType("b", "a"), callType("c", "b"),
				callField("b", "x", "z"), callField("b", "y", "x"), callField("b", "z", "y"),
			},
			Things: []api.Thing{
				thing("a", "k", text("x", "ax"), text("y", "ay"), keys("go", "k")),
				thing("b", "k", text("x", "bx"), keys("go", "k")),
				thing("a", "only", text("x", "1"), text("y", "2"), keys("go", "only")),
			},
		},
		{Types: []api.Type{typ("a", word("w"))}, Things: []api.Thing{thing("a", "k", text("w", "aw")), thing("a", "far", text("w", "3"))}},
	}
	lookRuns(t, l, []runCase{
		{"names that changed places", "b(k){x y go{x}}", `x=word "ay", y=word "ax", go=one {x=word "bx"}`,
			"0 a(k){y x go}; 0 b(k){x}; 1 a(k){}"},
		{"the other type", "a(k){x w go{x y}}", `x=word "bx", w=word "aw", go=one {x=word "ay", y=word "ax"}`,
			"0 b(k){x go}; 1 a(k){w}; 0 a(k){y x}"},
		{"a thing of one type alone", "b(only){x go{x}}", `x=word "2", go=null one`,
			"0 a(only){y go}; 0 b(only){x}; 1 a(only){}"},
		{"a thing of another service alone", "a(far){x go{x} w}", `x=null word, go=null one, w=word "3"`,
			"0 b(far){x go}; 1 a(far){w}"},
	})
	lookWrong(t, []wrongCase{
		{"a thing of another type", l, parse(t, "a(only){x}"), api.ErrNone},
		{"a thing of a service that is no home", l, parse(t, "b(far){x}"), api.ErrNone},
	})
}

// TestOneNameOfTwo: two services call other things by the same own names, and each is asked for what it has.
func TestOneNameOfTwo(t *testing.T) {
	l := []api.Service{
		{Types: []api.Type{typ("t", word("f"))}, Things: []api.Thing{thing("t", "k", text("f", "first"))}},
		{
			Types:   []api.Type{typ("t", word("f"), many("to", "t"))},
			Changes: []api.Change{callField("t", "f", "g")},
			Things:  []api.Thing{thing("t", "k", text("f", "second"), keys("to", "k", "j")), thing("t", "j", text("f", "far"), keys("to"))},
		},
	}
	lookRuns(t, l, []runCase{
		{"each has its own", "t(k){g f to{f g}}", `g=word "second", f=word "first", to=list [f=word "first", g=word "second"][f=null word, g=word "far"]`,
			"0 t(k){f}; 1 t(k){f to}; 0 t(k j){f}; 1 t(k j){f}"},
	})
}

type wrongCase struct {
	what string
	l    []api.Service
	a    api.Ask
	want api.Errno
}

func lookWrong(t *testing.T, cases []wrongCase) {
	t.Helper()
	for _, c := range cases {
		if got, requests, err := Run(c.l, c.a); err != c.want || len(got) != 0 || len(requests) != 0 {
			t.Errorf("%s: %v %s, %s, not %v", c.what, err, tell(got), tellRequests(requests), c.want)
		}
	}
}

func TestWrongServices(t *testing.T) {
	good := parse(t, "user(ann){name}")
	bad := func(change func(s *api.Service)) []api.Service {
		l := services()
		change(&l[1])
		return l
	}
	lookWrong(t, []wrongCase{
		{"too many services", make([]api.Service, api.MaxServices+1), good, api.ErrMany},
		{"a type's name", bad(func(s *api.Service) { s.Types[0].Name = "Post" }), good, api.ErrName},
		{"a field's kind", bad(func(s *api.Service) { s.Types[0].Fields[0].Kind = 4 }), good, api.ErrKind},
		{"a change of nothing", bad(func(s *api.Service) { s.Changes[0].Type = "user" }), good, api.ErrNone},
		{"a thing twice", bad(func(s *api.Service) { s.Things[1].Key = "ann" }), good, api.ErrName},
		{"a thing with too few vals", bad(func(s *api.Service) { s.Things[0].Vals = s.Things[0].Vals[1:] }), good, api.ErrMany},
		{"two keys of One", bad(func(s *api.Service) { s.Things[0].Vals[0] = keys("boss", "cid", "cid") }), good, api.ErrMany},
		{"a text of One", bad(func(s *api.Service) { s.Things[0].Vals[0].Text = "x" }), good, api.ErrFit},
		{"a text that is too long", bad(func(s *api.Service) { s.Things[4].Vals[0].Text = strings.Repeat("x", api.MaxText+1) }), good, api.ErrMuch},
		{"two services have one field", []api.Service{names(), names()}, good, api.ErrName},
	})
}

func TestWrongAsk(t *testing.T) {
	deep := []api.Pick{{Field: "under"}}
	deep[0].Picks = deep // it has no end
	most := make([]api.Pick, api.MaxPicks+1)
	for i := range most {
		most[i] = api.Pick{As: "a" + strconv.Itoa(i), Field: "name"}
	}
	lookWrong(t, []wrongCase{
		{"nothing is asked", services(), api.Ask{}, api.ErrName},
		{"no picks", services(), api.Ask{Type: "user", Key: "ann"}, api.ErrMany},
		{"too many picks", services(), api.Ask{Type: "user", Key: "ann", Picks: most}, api.ErrMany},
		{"too deep", services(), api.Ask{Type: "user", Key: "ann", Picks: deep}, api.ErrMuch},
		{"no such part", services(), parse(t, "users(ann){name}"), api.ErrNone},
		{"a part by its own name", services(), parse(t, "man(ann){boss{name}}"), api.ErrNone},
		{"a field by its own name", services(), parse(t, "post(ann){by{name}}"), api.ErrNone},
		{"a field that is hidden", services()[1:], parse(t, "user(gus){name}"), api.ErrNone},
		{"two picks called the same", services(), parse(t, "user(ann){name name:town}"), api.ErrName},
		{"picks of a word", services(), parse(t, "user(ann){name{name}}"), api.ErrFit},
		{"no picks of a thing", services(), parse(t, "user(ann){boss}"), api.ErrFit},
		{"picks of nothing further in", services(), parse(t, "user(ann){under{boss{title}}}"), api.ErrNone},
		{"no services", nil, parse(t, "user(ann){name}"), api.ErrNone},
		{"a service with nothing", []api.Service{{}}, parse(t, "user(ann){name}"), api.ErrNone},
	})
	got, requests, err := Run(services(), api.Ask{Type: "user", Key: "ann", Picks: most[:api.MaxPicks]})
	if err != api.OK || len(got) != api.MaxPicks || tellRequests(requests) != "0 user(ann){name}; 1 man(ann){}; 2 user(ann){}" {
		t.Errorf("as many picks as may be: %v, %d of them, %s", err, len(got), tellRequests(requests))
	}
}

func TestNotThere(t *testing.T) {
	lookWrong(t, []wrongCase{
		{"a key of nothing", services(), parse(t, "user(zoe){name}"), api.ErrNone},
		{"a key of another type's thing", services(), parse(t, "user(two){name boss{name}}"), api.ErrNone},
		{"the other way round", services(), parse(t, "post(bob){title}"), api.ErrNone},
		{"a thing of a service that is not asked", services()[:1], parse(t, "user(cid){name}"), api.ErrNone},
		{"a key that just a list has", services(), parse(t, "post(lost){title}"), api.ErrNone},
	})
}

func TestWrongInTurn(t *testing.T) {
	bad := services()
	bad[2].Things[0].Vals[0].Keys = []string{"a"}
	lookWrong(t, []wrongCase{
		{"a service goes ahead of what is asked", bad, api.Ask{}, api.ErrFit},
		{"a service goes ahead of a thing", bad, parse(t, "user(zoe){name}"), api.ErrFit},
		{"two services that don't go together go ahead of a thing", []api.Service{names(), names()}, parse(t, "user(zoe){name}"), api.ErrName},
		{"what is asked goes ahead of a thing", services(), parse(t, "user(zoe){name name}"), api.ErrName},
		{"picks further in go ahead of a thing", services(), parse(t, "user(zoe){boss{name{name}}}"), api.ErrFit},
	})
}
