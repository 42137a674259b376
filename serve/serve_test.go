package serve

import (
	"reflect"
	"slices"
	"strconv"
	"testing"

	"stitchery/api"
)

func word(name string) api.Field { return api.Field{Name: name, Kind: api.Word} }

func one(name, typ string) api.Field { return api.Field{Name: name, Kind: api.One, Type: typ} }

func list(name, typ string) api.Field { return api.Field{Name: name, Kind: api.List, Type: typ} }

func typ(name string, fields ...api.Field) api.Type { return api.Type{Name: name, Fields: fields} }

func thing(typ, key string, vals ...api.Val) api.Thing {
	return api.Thing{Type: typ, Key: key, Vals: vals}
}

func text(field, s string) api.Val { return api.Val{Field: field, Text: s} }

func keys(field string, l ...string) api.Val { return api.Val{Field: field, Keys: l} }

func ask(service int, typ string, keys, fields []string) api.Request {
	return api.Request{Service: service, Type: typ, Keys: keys, Fields: fields}
}

func of(l ...string) []string { return l }

func vals(l ...api.Val) []api.Val { return l }

// services answers three: one with nothing, one of users and tags whose names are seen otherwise, and one that nobody has checked.
func services() []api.Service {
	return []api.Service{
		{},
		{
			Types: []api.Type{
				typ("user", word("name"), one("boss", "user"), list("tags", "tag")),
				typ("tag", word("name")),
			},
			Changes: []api.Change{
				{Kind: api.CallType, Type: "user", To: "man"},
				{Kind: api.CallField, Type: "man", Field: "boss", To: "chief"},
				{Kind: api.Hide, Type: "man", Field: "name"},
			},
			Things: []api.Thing{
				thing("tag", "ann", text("name", "a tag")),
				thing("user", "ann", text("name", "Ann"), keys("boss", "bob"), keys("tags", "old", "ann", "old")),
				thing("user", "bob", text("name", "Bob"), keys("boss"), keys("tags")),
				thing("tag", "old", text("name", "")),
			},
		},
		{
			Types: []api.Type{typ("", word(""), word("A"), word("A")), typ("t", word("x"), word("y")), typ("t", word("z"))},
			Things: []api.Thing{
				thing("u", "a", text("x", "of a type that is none")),
				thing("t", "a", text("y", "1"), text("x", "2"), api.Val{Field: "y", Text: "3", Keys: of("k", "")}, text("w", "4")),
				thing("t", "a", text("x", "behind the first one")),
				thing("", "", text("A", "5"), text("", "6")),
				thing("t", "b"),
				thing("t", "b", text("x", "behind one without vals")),
			},
		},
	}
}

// same holds replies against each other; nil and empty lists are the same.
func same(a, b api.Reply) bool {
	return slices.Equal(a.Found, b.Found) && slices.EqualFunc(a.Vals, b.Vals, func(l, m []api.Val) bool {
		return slices.EqualFunc(l, m, func(v, w api.Val) bool {
			return v.Field == w.Field && v.Text == w.Text && slices.Equal(v.Keys, w.Keys)
		})
	})
}

type answerCase struct {
	what string
	q    api.Request
	want api.Reply
}

func lookAnswers(t *testing.T, cases []answerCase) {
	t.Helper()
	for _, c := range cases {
		got, err := Answer(services(), c.q)
		if err != api.OK || !same(got, c.want) {
			t.Errorf("%s: %v %v, not %v", c.what, got, err, c.want)
		}
		if err := Wrong(services(), c.q); err != api.OK {
			t.Errorf("%s: Wrong says %v", c.what, err)
		}
	}
}

func reply(found []bool, vals ...[]api.Val) api.Reply { return api.Reply{Found: found, Vals: vals} }

func TestAnswer(t *testing.T) {
	yes, no := []bool{true}, []bool{false}
	lookAnswers(t, []answerCase{
		{"no keys, no fields", ask(1, "user", nil, nil), reply(nil)},
		{"empty lists", ask(1, "user", of(), of()), reply(nil)},
		{"no keys", ask(1, "user", nil, of("name")), reply(nil)},
		{"no fields", ask(1, "user", of("zoe", "ann"), nil), reply([]bool{false, true}, nil, nil)},
		{"one field of one thing", ask(1, "user", of("ann"), of("name")), reply(yes, vals(text("name", "Ann")))},
		{"keys of a thing", ask(1, "user", of("ann"), of("tags")), reply(yes, vals(keys("tags", "old", "ann", "old")))},
		{"no keys of a thing", ask(1, "user", of("bob"), of("boss")), reply(yes, vals(keys("boss")))},
		{"just one is found", ask(1, "tag", of("bob", "ann"), of("name")), reply([]bool{false, true}, nil, vals(text("name", "a tag")))},
		{"keys as they are asked for", ask(1, "user", of("bob", "zoe", "ann"), of("name")),
			reply([]bool{true, false, true}, vals(text("name", "Bob")), nil, vals(text("name", "Ann")))},
		{"fields as they are asked for", ask(1, "user", of("ann"), of("tags", "name", "boss")),
			reply(yes, vals(keys("tags", "old", "ann", "old"), text("name", "Ann"), keys("boss", "bob")))},
		{"a thing of another type has the key", ask(1, "user", of("old"), of("name")), reply(no, nil)},
		{"things of two types have the key", ask(1, "tag", of("ann", "old"), of("name")),
			reply([]bool{true, true}, vals(text("name", "a tag")), vals(text("name", "")))},
		{"keys that are no names", ask(1, "user", of("A", "", "ann ", "ANN", "an", "annn"), of("name")), reply(make([]bool, 6), make([][]api.Val, 6)...)},
		{"a key and a field alike", ask(1, "user", of("name"), of("name")), reply(no, nil)},
		{"what is hidden is its own", ask(1, "user", of("bob"), of("name", "boss")), reply(yes, vals(text("name", "Bob"), keys("boss")))},
	})
}

// TestAnswerUnchecked: a service answers as it stands, whatever is wrong with it.
func TestAnswerUnchecked(t *testing.T) {
	odd := api.Val{Field: "y", Text: "3", Keys: of("k", "")}
	lookAnswers(t, []answerCase{
		{"all vals of a field", ask(2, "t", of("a"), of("y")), reply([]bool{true}, vals(text("y", "1"), odd))},
		{"field by field", ask(2, "t", of("a"), of("x", "y")), reply([]bool{true}, vals(text("x", "2"), text("y", "1"), odd))},
		{"the first thing, without vals", ask(2, "t", of("b"), of("x")), reply([]bool{true}, nil)},
		{"empty names", ask(2, "", of(""), of("", "A")), reply([]bool{true}, vals(text("", "6"), text("A", "5")))},
	})
}

type wrongCase struct {
	what string
	q    api.Request
	want api.Errno
}

func lookWrong(t *testing.T, cases []wrongCase) {
	t.Helper()
	for _, c := range cases {
		if got := Wrong(services(), c.q); got != c.want {
			t.Errorf("%s: %v, not %v", c.what, got, c.want)
		}
		r, err := Answer(services(), c.q)
		if err != c.want || len(r.Found) != 0 || len(r.Vals) != 0 {
			t.Errorf("%s: Answer says %v %v, not %v", c.what, r, err, c.want)
		}
	}
}

func TestWrong(t *testing.T) {
	least, most := -int(^uint(0)>>1)-1, int(^uint(0)>>1)
	lookWrong(t, []wrongCase{
		{"a service below the first", ask(-1, "user", nil, nil), api.ErrNone},
		{"a service behind the last", ask(3, "user", nil, nil), api.ErrNone},
		{"the least number", ask(least, "user", nil, nil), api.ErrNone},
		{"the greatest number", ask(most, "user", nil, nil), api.ErrNone},
		{"a service without types", ask(0, "user", nil, nil), api.ErrKind},
		{"no type", ask(1, "", nil, nil), api.ErrKind},
		{"another type", ask(1, "users", nil, nil), api.ErrKind},
		{"a type as it is seen", ask(1, "man", nil, nil), api.ErrKind},
		{"a type of another service", ask(1, "t", nil, nil), api.ErrKind},
		{"a type that just a thing has", ask(2, "u", of("a"), nil), api.ErrKind},
		{"no such field", ask(1, "user", nil, of("nam")), api.ErrFit},
		{"an empty field", ask(1, "user", nil, of("")), api.ErrFit},
		{"a field as it is seen", ask(1, "user", nil, of("chief")), api.ErrFit},
		{"a field of another type", ask(1, "tag", nil, of("name", "boss")), api.ErrFit},
		{"a field of another type of that name", ask(2, "t", nil, of("z")), api.ErrFit},
		{"a field that just a thing has", ask(2, "t", of("a"), of("w")), api.ErrFit},
		{"a field twice", ask(1, "user", nil, of("name", "name")), api.ErrName},
		{"a field twice, not side by side", ask(1, "user", nil, of("name", "boss", "tags", "name")), api.ErrName},
		{"a field twice that the type has twice", ask(2, "", nil, of("A", "A")), api.ErrName},
		{"a key twice", ask(1, "user", of("ann", "ann"), nil), api.ErrName},
		{"a key twice, not side by side", ask(1, "user", of("ann", "bob", "zoe", "bob"), of("name")), api.ErrName},
		{"a key twice that nothing has", ask(1, "user", of("", "ann", ""), of("name")), api.ErrName},
	})
	if err := Wrong(nil, api.Request{}); err != api.ErrNone {
		t.Errorf("no services: %v", err)
	}
	if err := Wrong([]api.Service{}, api.Request{}); err != api.ErrNone {
		t.Errorf("an empty list of services: %v", err)
	}
}

func TestWrongInTurn(t *testing.T) {
	lookWrong(t, []wrongCase{
		{"the service goes ahead of the type", ask(3, "zz", nil, nil), api.ErrNone},
		{"the service goes ahead of all", ask(-1, "zz", of("a", "a"), of("zz", "zz")), api.ErrNone},
		{"the type goes ahead of fields", ask(1, "zz", nil, of("zz")), api.ErrKind},
		{"the type goes ahead of keys", ask(1, "zz", of("a", "a"), nil), api.ErrKind},
		{"a field that is none goes ahead of it twice", ask(1, "user", nil, of("zz", "zz")), api.ErrFit},
		{"field by field: twice, then none", ask(1, "user", nil, of("name", "name", "zz")), api.ErrName},
		{"field by field: none, then twice", ask(1, "user", nil, of("name", "zz", "name")), api.ErrFit},
		{"fields go ahead of keys", ask(1, "user", of("a", "a"), of("name", "zz")), api.ErrFit},
	})
}

// TestKeyByKey: key by key, and field by field, as all at once.
func TestKeyByKey(t *testing.T) {
	l := services()
	for _, q := range []api.Request{
		ask(1, "user", of("old", "bob", "zoe", "ann"), of("boss", "name", "tags")),
		ask(1, "tag", of("ann", "bob", "old"), of("name")),
		ask(2, "t", of("b", "", "a"), of("y", "x")),
		ask(2, "", of("a", "", "b"), of("A", "")),
	} {
		lookKeyByKey(t, l, q)
	}
}

func lookKeyByKey(t *testing.T, l []api.Service, q api.Request) {
	t.Helper()
	all, err := Answer(l, q)
	if err != api.OK {
		t.Fatalf("%v: %v", q, err)
	}
	var each api.Reply
	for _, key := range q.Keys {
		found, got := false, []api.Val(nil)
		for _, field := range q.Fields {
			r, err := Answer(l, ask(q.Service, q.Type, of(key), of(field)))
			if err != api.OK || len(r.Found) != 1 || len(r.Vals) != 1 {
				t.Fatalf("%v, %s of %s: %v %v", q, field, key, r, err)
			}
			found, got = r.Found[0], append(got, r.Vals[0]...)
		}
		each.Found, each.Vals = append(each.Found, found), append(each.Vals, got)
	}
	if !same(all, each) {
		t.Errorf("%v: %v, not %v", q, all, each)
	}
}

// TestMany: there is no limit to a request, and a long one is answered at once.
func TestMany(t *testing.T) {
	const many = 100000
	s := api.Service{Types: []api.Type{typ("t", word("x"))}}
	q := ask(0, "t", nil, of("x"))
	for i := range many {
		key := strconv.Itoa(i)
		s.Things = append(s.Things, thing("t", strconv.Itoa(many-1-i), text("x", "of "+strconv.Itoa(many-1-i))))
		q.Keys = append(q.Keys, key, "no"+key)
	}
	r, err := Answer([]api.Service{s}, q)
	if err != api.OK || len(r.Found) != 2*many || len(r.Vals) != 2*many {
		t.Fatalf("%v: %d found, %d vals", err, len(r.Found), len(r.Vals))
	}
	for i := range many {
		if !r.Found[2*i] || r.Found[2*i+1] || len(r.Vals[2*i]) != 1 || r.Vals[2*i][0].Text != "of "+strconv.Itoa(i) || len(r.Vals[2*i+1]) != 0 {
			t.Fatalf("key %d: %v %v", i, r.Found[2*i:2*i+2], r.Vals[2*i:2*i+2])
		}
	}
	q.Keys = append(q.Keys, "0")
	if err := Wrong([]api.Service{s}, q); err != api.ErrName {
		t.Errorf("the first key, again the last one: %v", err)
	}
}

// roomy answers services and a request, with spare room behind each list that would change the answer.
func roomy() ([]api.Service, api.Request) {
	l := services()[:2]
	s := &l[1]
	s.Types[0].Fields = append(s.Types[0].Fields, word("spare"))[:3]
	s.Types = append(s.Types, typ("spare"))[:2]
	s.Things[1].Vals[2].Keys = append(s.Things[1].Vals[2].Keys, "spare")[:3]
	s.Things[1].Vals = append(s.Things[1].Vals, text("name", "spare"))[:3]
	s.Things = append(s.Things, thing("user", "zoe", text("name", "spare")))[:4]
	return l, ask(1, "user", of("ann", "zoe", "ann")[:2], of("tags", "name", "name")[:2])
}

// wide answers a copy of all that there is, up to the ends of the spare room.
func wide(l []api.Service, q api.Request) ([]api.Service, api.Request) {
	l = slices.Clone(l[:cap(l)])
	for i := range l {
		s := &l[i]
		s.Types, s.Things = slices.Clone(s.Types[:cap(s.Types)]), slices.Clone(s.Things[:cap(s.Things)])
		for j, x := range s.Types {
			s.Types[j].Fields = slices.Clone(x.Fields[:cap(x.Fields)])
		}
		for j, x := range s.Things {
			s.Things[j].Vals = slices.Clone(x.Vals[:cap(x.Vals)])
			for k, v := range s.Things[j].Vals {
				s.Things[j].Vals[k].Keys = slices.Clone(v.Keys[:cap(v.Keys)])
			}
		}
	}
	q.Keys, q.Fields = slices.Clone(q.Keys[:cap(q.Keys)]), slices.Clone(q.Fields[:cap(q.Fields)])
	return l, q
}

func roomyReply() api.Reply {
	return reply([]bool{true, false}, vals(keys("tags", "old", "ann", "old"), text("name", "Ann")), nil)
}

func TestOnlyRead(t *testing.T) {
	l, q := roomy()
	wantL, wantQ := wide(l, q)
	got, err := Answer(l, q)
	if err != api.OK || Wrong(l, q) != api.OK || !same(got, roomyReply()) {
		t.Errorf("%v %v, not %v", got, err, roomyReply())
	}
	if gotL, gotQ := wide(l, q); !reflect.DeepEqual(gotL, wantL) || !reflect.DeepEqual(gotQ, wantQ) {
		t.Error("what was handed in was changed")
	}
	for what, x := range map[string]struct {
		q    api.Request
		want api.Errno
	}{
		"services": {ask(2, "t", nil, nil), api.ErrNone},
		"types":    {ask(1, "spare", nil, nil), api.ErrKind},
		"fields":   {ask(1, "user", nil, of("spare")), api.ErrFit},
	} {
		if err := Wrong(l, x.q); err != x.want {
			t.Errorf("Wrong looks at the spare room of %s: %v", what, err)
		}
	}
}

// TestNewMemory: what is answered stays as it is when what was handed in changes, and the other way round, and so do its lists beside each other.
func TestNewMemory(t *testing.T) {
	l, q := roomy()
	got, _ := Answer(l, q)
	for i := range l {
		for j := range l[i].Things {
			for _, v := range l[i].Things[j].Vals {
				clear(v.Keys)
			}
			clear(l[i].Things[j].Vals)
		}
		clear(l[i].Things)
	}
	clear(q.Keys)
	clear(q.Fields)
	if !same(got, roomyReply()) {
		t.Errorf("what was handed in is kept: %v", got)
	}

	l, q = roomy()
	q.Keys = of("ann", "bob")
	wantL, wantQ := wide(l, q)
	got, _ = Answer(l, q)
	next, _ := Answer(l, q)
	want, _ := Answer(l, q)
	spoilEach(t, got, want)
	if !same(next, want) {
		t.Error("two answers share memory")
	}
	if gotL, gotQ := wide(l, q); !reflect.DeepEqual(gotL, wantL) || !reflect.DeepEqual(gotQ, wantQ) {
		t.Error("what was handed in is changed with the answer")
	}
}

// spoilEach spoils one list of the answer after the other, its spare room too, and looks whether the others stay as they are.
func spoilEach(t *testing.T, got, want api.Reply) {
	t.Helper()
	look := func() {
		t.Helper()
		if !same(got, want) {
			t.Fatalf("lists of an answer share memory: %v, not %v", got, want)
		}
	}
	for i := range got.Vals {
		for j := range got.Vals[i] {
			k := got.Vals[i][j].Keys
			for n := range k[:cap(k)] {
				k[:cap(k)][n] = "spoilt"
			}
			got.Vals[i][j].Keys = slices.Clone(want.Vals[i][j].Keys)
			look()
		}
		v := got.Vals[i]
		for n := range v[:cap(v)] {
			v[:cap(v)][n] = text("spoilt", "")
		}
		got.Vals[i] = slices.Clone(want.Vals[i])
		look()
	}
}
