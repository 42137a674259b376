package merge

import (
	"cmp"
	"reflect"
	"slices"
	"strconv"
	"strings"
	"testing"

	"stitchery/api"
	"stitchery/change"
	"stitchery/schema"
)

func word(name string) api.Field { return api.Field{Name: name, Kind: api.Word} }

func one(name, typ string) api.Field { return api.Field{Name: name, Kind: api.One, Type: typ} }

func list(name, typ string) api.Field { return api.Field{Name: name, Kind: api.List, Type: typ} }

func typ(name string, fields ...api.Field) api.Type { return api.Type{Name: name, Fields: fields} }

func callT(from, to string) api.Change { return api.Change{Kind: api.CallType, Type: from, To: to} }

func callF(typ, from, to string) api.Change {
	return api.Change{Kind: api.CallField, Type: typ, Field: from, To: to}
}

func hides(typ, field string) api.Change {
	return api.Change{Kind: api.Hide, Type: typ, Field: field}
}

func has(types ...api.Type) api.Service { return api.Service{Types: types} }

func seenAs(s api.Service, changes ...api.Change) api.Service {
	s.Changes = changes
	return s
}

func with(s api.Service, things ...api.Thing) api.Service {
	s.Things = things
	return s
}

func from(n int, typ, field string) api.Owner { return api.Owner{Service: n, Type: typ, Field: field} }

func home(n int, typ string) api.Owner { return api.Owner{Service: n, Type: typ} }

func part(t api.Type, homes []api.Owner, owners ...api.Owner) api.Part {
	return api.Part{Type: t, Owners: owners, Homes: homes}
}

func homes(l ...api.Owner) []api.Owner { return l }

// names answers a service that has users' names, and bosses one that has, as men, who is whose boss.
func names() api.Service { return has(typ("user", word("name")), typ("tag")) }

func bosses() api.Service { return has(typ("man", one("boss", "man"), word("call"))) }

// same holds parts against each other; nil and empty lists are the same.
func same(a, b []api.Part) bool {
	return slices.EqualFunc(a, b, func(p, q api.Part) bool {
		return p.Type.Name == q.Type.Name && slices.Equal(p.Type.Fields, q.Type.Fields) &&
			slices.Equal(p.Owners, q.Owners) && slices.Equal(p.Homes, q.Homes)
	})
}

func TestAll(t *testing.T) {
	asUser := seenAs(bosses(), callT("man", "user"))
	for _, c := range []struct {
		what string
		l    []api.Service
		want []api.Part
	}{
		{"nil", nil, nil},
		{"no services", []api.Service{}, nil},
		{"a service without types", []api.Service{{}}, nil},
		{"one service, names rising", []api.Service{names()}, []api.Part{
			part(typ("tag"), homes(home(0, "tag"))),
			part(typ("user", word("name")), homes(home(0, "user")), from(0, "user", "name")),
		}},
		{"two types of two services", []api.Service{names(), bosses()}, []api.Part{
			part(typ("man", one("boss", "man"), word("call")), homes(home(1, "man")), from(1, "man", "boss"), from(1, "man", "call")),
			part(typ("tag"), homes(home(0, "tag"))),
			part(typ("user", word("name")), homes(home(0, "user")), from(0, "user", "name")),
		}},
		{"one type of two services", []api.Service{names(), asUser}, []api.Part{
			part(typ("tag"), homes(home(0, "tag"))),
			part(typ("user", word("name"), one("boss", "user"), word("call")), homes(home(0, "user"), home(1, "man")),
				from(0, "user", "name"), from(1, "man", "boss"), from(1, "man", "call")),
		}},
		{"the other way round", []api.Service{asUser, names()}, []api.Part{
			part(typ("tag"), homes(home(1, "tag"))),
			part(typ("user", one("boss", "user"), word("call"), word("name")), homes(home(0, "man"), home(1, "user")),
				from(0, "man", "boss"), from(0, "man", "call"), from(1, "user", "name")),
		}},
		{"a service without types between", []api.Service{names(), {}, asUser}, []api.Part{
			part(typ("tag"), homes(home(0, "tag"))),
			part(typ("user", word("name"), one("boss", "user"), word("call")), homes(home(0, "user"), home(2, "man")),
				from(0, "user", "name"), from(2, "man", "boss"), from(2, "man", "call")),
		}},
		{"homes that give no field", []api.Service{has(typ("tag")), has(typ("tag")), seenAs(has(typ("t", word("a"))), callT("t", "tag"), hides("tag", "a"))}, []api.Part{
			part(typ("tag"), homes(home(0, "tag"), home(1, "tag"), home(2, "t"))),
		}},
		{"fields by their own names", []api.Service{seenAs(bosses(), hides("man", "boss"), callF("man", "call", "name"), callT("man", "user"))}, []api.Part{
			part(typ("user", word("name")), homes(home(0, "man")), from(0, "man", "call")),
		}},
		{"a name that another field had", []api.Service{seenAs(bosses(), callF("man", "boss", "b"), callF("man", "call", "boss"))}, []api.Part{
			part(typ("man", one("b", "man"), word("boss")), homes(home(0, "man")), from(0, "man", "boss"), from(0, "man", "call")),
		}},
		{"types that change names", []api.Service{seenAs(has(typ("a", word("x"), list("l", "b")), typ("b", word("y"))), callT("a", "c"), callT("b", "a"), callT("c", "b"))}, []api.Part{
			part(typ("a", word("y")), homes(home(0, "b")), from(0, "b", "y")),
			part(typ("b", word("x"), list("l", "a")), homes(home(0, "a")), from(0, "a", "x"), from(0, "a", "l")),
		}},
		{"names byte by byte", []api.Service{has(typ("ab"), typ("a9"), typ("b")), has(typ("a"), typ("aa"))}, []api.Part{
			part(typ("a"), homes(home(1, "a"))), part(typ("a9"), homes(home(0, "a9"))), part(typ("aa"), homes(home(1, "aa"))),
			part(typ("ab"), homes(home(0, "ab"))), part(typ("b"), homes(home(0, "b"))),
		}},
		{"one name of fields of two types", []api.Service{has(typ("a", word("x"))), has(typ("b", word("x")))}, []api.Part{
			part(typ("a", word("x")), homes(home(0, "a")), from(0, "a", "x")),
			part(typ("b", word("x")), homes(home(1, "b")), from(1, "b", "x")),
		}},
	} {
		got, f := All(c.l)
		if f != (api.Fault{}) || !same(got, c.want) {
			t.Errorf("%s: %v %v, not %v", c.what, got, f, c.want)
		}
		if w := Wrong(c.l); w != (api.Fault{}) {
			t.Errorf("%s: Wrong says %v", c.what, w)
		}
	}
}

// full answers as many services as may be, each with as many types and fields as may be, no two fields of one name.
func full() []api.Service {
	var l []api.Service
	for n := range api.MaxServices {
		var s api.Service
		for i := range api.MaxTypes {
			var fields []api.Field
			for j := range api.MaxFields {
				fields = append(fields, word("s"+strconv.Itoa(n)+"f"+strconv.Itoa(j)))
			}
			s.Types = append(s.Types, typ("t"+strconv.Itoa(api.MaxTypes-1-i), fields...))
		}
		l = append(l, s)
	}
	return l
}

func TestAllFull(t *testing.T) {
	got, f := All(full())
	if f != (api.Fault{}) || len(got) != api.MaxTypes {
		t.Fatalf("%d parts, %v", len(got), f)
	}
	for i, p := range got {
		if p.Type.Name != "t"+strconv.Itoa(i) || len(p.Homes) != api.MaxServices || len(p.Owners) != api.MaxServices*api.MaxFields {
			t.Fatalf("part %d: %v", i, p)
		}
		for j, o := range p.Owners {
			n := j / api.MaxFields
			name := "s" + strconv.Itoa(n) + "f" + strconv.Itoa(j%api.MaxFields)
			if o != from(n, p.Type.Name, name) || p.Type.Fields[j] != word(name) || p.Homes[n] != home(n, p.Type.Name) {
				t.Fatalf("part %d, field %d: %v %v %v", i, j, o, p.Type.Fields[j], p.Homes)
			}
		}
	}
}

type faultCase struct {
	what string
	l    []api.Service
	want api.Fault
}

// lookFaults looks for the fault of All, and for what Wrong says: the same of services that are wrong by themselves, else nothing.
func lookFaults(t *testing.T, byThemselves bool, cases []faultCase) {
	t.Helper()
	for _, c := range cases {
		if parts, f := All(c.l); f != c.want || len(parts) != 0 {
			t.Errorf("%s: All says %v %v, not %v", c.what, parts, f, c.want)
		}
		want := c.want
		if !byThemselves {
			want = api.Fault{}
		}
		if got := Wrong(c.l); got != want {
			t.Errorf("%s: Wrong says %v, not %v", c.what, got, want)
		}
	}
}

func at(i int, err api.Errno) api.Fault { return api.Fault{Err: err, At: i} }

func TestWrong(t *testing.T) {
	thing := func(typ, key string, vals ...api.Val) api.Thing { return api.Thing{Type: typ, Key: key, Vals: vals} }
	ann := thing("user", "ann", api.Val{Field: "name", Text: "Ann"})
	lookFaults(t, true, []faultCase{
		{"too many services", make([]api.Service, api.MaxServices+1), at(0, api.ErrMany)},
		{"too many services, the first one wrong", append([]api.Service{has(typ("A"))}, full()...), at(0, api.ErrMany)},
		{"as many as may be", make([]api.Service, api.MaxServices), at(0, api.OK)},
		{"a type's name", []api.Service{names(), has(typ("a"), typ("b"), typ("A"))}, at(1, api.ErrName)},
		{"too many types", []api.Service{{}, {}, has(make([]api.Type, api.MaxTypes+1)...)}, at(2, api.ErrMany)},
		{"a field's kind", []api.Service{has(typ("a", api.Field{Name: "x"}))}, at(0, api.ErrKind)},
		{"a field's type", []api.Service{names(), has(typ("a", one("x", "user")))}, at(1, api.ErrNone)},
		{"too many changes", []api.Service{names(), seenAs(names(), make([]api.Change, api.MaxChanges+1)...)}, at(1, api.ErrMany)},
		{"a change of no kind", []api.Service{seenAs(names(), callT("tag", "t"), api.Change{})}, at(0, api.ErrKind)},
		{"a change of no type", []api.Service{{}, seenAs(names(), callT("user", "man"), callT("tag", "t"), hides("user", "name"))}, at(1, api.ErrNone)},
		{"a change to a name that is taken", []api.Service{{}, {}, {}, {}, seenAs(names(), callT("user", "tag"))}, at(4, api.ErrName)},
		{"a thing of no type", []api.Service{with(names(), ann, thing("dog", "rex"))}, at(0, api.ErrNone)},
		{"a thing's key", []api.Service{{}, with(names(), ann, thing("tag", "a"), ann)}, at(1, api.ErrName)},
		{"a thing without its vals", []api.Service{{}, with(names(), thing("user", "bob"))}, at(1, api.ErrMany)},
		{"a thing with too long a text", []api.Service{{}, {}, with(names(), ann, thing("user", "bob", api.Val{Field: "name", Text: strings.Repeat("x", api.MaxText+1)}))}, at(2, api.ErrMuch)},
		{"a word with keys", []api.Service{with(names(), thing("user", "bob", api.Val{Field: "name", Keys: []string{"k"}}))}, at(0, api.ErrFit)},
		{"things of types that are seen, not of its own", []api.Service{seenAs(with(names(), thing("t", "a")), callT("tag", "t"))}, at(0, api.ErrNone)},
		{"vals of what is seen, not of its own", []api.Service{seenAs(with(names(), thing("user", "bob")), hides("user", "name"))}, at(0, api.ErrMany)},
	})
	own := seenAs(with(names(), ann, thing("tag", "a")), callT("tag", "t"), callF("user", "name", "n"), hides("user", "n"))
	if f := Wrong([]api.Service{own, own}); f != (api.Fault{}) {
		t.Errorf("things go by own names, whatever is seen: %v", f)
	}
}

func TestWrongInTurn(t *testing.T) {
	dog := api.Thing{Type: "dog", Key: "rex"}
	lookFaults(t, true, []faultCase{
		{"types go ahead of changes", []api.Service{seenAs(has(typ("A")), api.Change{})}, at(0, api.ErrName)},
		{"types go ahead of things", []api.Service{with(has(typ("A")), dog)}, at(0, api.ErrName)},
		{"changes go ahead of things", []api.Service{seenAs(with(names(), dog), api.Change{})}, at(0, api.ErrKind)},
		{"a service's things go ahead of the next one's types", []api.Service{names(), with(names(), dog), has(typ("A"))}, at(1, api.ErrNone)},
		{"a service's changes go ahead of the next one's types", []api.Service{seenAs(names(), api.Change{}), has(typ("A"))}, at(0, api.ErrKind)},
		{"a wrong service goes ahead of two that don't go together", []api.Service{names(), names(), with(names(), dog)}, at(2, api.ErrNone)},
	})
}

func TestNotTogether(t *testing.T) {
	lookFaults(t, false, []faultCase{
		{"one service twice", []api.Service{names(), names()}, at(1, api.ErrName)},
		{"one field of another kind", []api.Service{has(typ("user", one("name", "user"))), names()}, at(1, api.ErrName)},
		{"called so", []api.Service{names(), {}, seenAs(bosses(), callF("man", "call", "name"), callT("man", "user"))}, at(2, api.ErrName)},
		{"called so, the other way round", []api.Service{seenAs(bosses(), callF("man", "call", "name"), callT("man", "user")), {}, names()}, at(2, api.ErrName)},
		{"the last field of the last type", []api.Service{has(typ("b", word("x"), word("y"))), has(typ("a", word("y")), typ("b", word("z"), word("y")))}, at(1, api.ErrName)},
		{"the first one of two", []api.Service{names(), bosses(), bosses(), names()}, at(2, api.ErrName)},
	})
	for what, l := range map[string][]api.Service{
		"hidden":                  {names(), seenAs(names(), hides("user", "name"))},
		"hidden, the first one":   {seenAs(names(), hides("user", "name")), names()},
		"called otherwise":        {names(), seenAs(names(), callF("user", "name", "n"))},
		"a type called otherwise": {names(), seenAs(names(), callT("user", "man"))},
	} {
		if _, f := All(l); f != (api.Fault{}) {
			t.Errorf("%s: %v", what, f)
		}
	}
}

// TestWhateverOrder: services go together in whatever order: the same parts, fields and owners, but for where they stand.
func TestWhateverOrder(t *testing.T) {
	l := []api.Service{names(), seenAs(bosses(), callT("man", "user")), has(typ("user", word("mail")), typ("alpha", one("of", "user")))}
	for _, order := range [][]int{{0, 2, 1}, {1, 0, 2}, {1, 2, 0}, {2, 0, 1}, {2, 1, 0}} {
		var other []api.Service
		for _, n := range order {
			other = append(other, l[n])
		}
		a, _ := All(l)
		b, f := All(other)
		if len(a) != 3 || f != (api.Fault{}) || !reflect.DeepEqual(sorted(a, nil), sorted(b, order)) {
			t.Errorf("%v: %v %v, not %v", order, b, f, a)
		}
	}
}

type owned struct {
	part  string
	field api.Field
	owner api.Owner
}

// sorted answers all fields and homes, with services' numbers as order says they were, and sorted.
func sorted(l []api.Part, order []int) []owned {
	was := func(o api.Owner) api.Owner {
		if order != nil {
			o.Service = order[o.Service]
		}
		return o
	}
	var out []owned
	for _, p := range l {
		for i, f := range p.Type.Fields {
			out = append(out, owned{p.Type.Name, f, was(p.Owners[i])})
		}
		for _, h := range p.Homes {
			out = append(out, owned{p.Type.Name, api.Field{}, was(h)})
		}
	}
	slices.SortFunc(out, func(a, b owned) int {
		return cmp.Or(cmp.Compare(a.part, b.part), cmp.Compare(a.field.Name, b.field.Name), cmp.Compare(a.owner.Service, b.owner.Service))
	})
	return out
}

// TestIsASchema: what one service shows goes on to be a schema, put together with none.
func TestIsASchema(t *testing.T) {
	s := seenAs(bosses(), callT("man", "user"), callF("user", "call", "name"))
	parts, _ := All([]api.Service{s})
	seen, _ := change.See(s.Types, s.Changes)
	var types []api.Type
	for _, p := range parts {
		types = append(types, p.Type)
	}
	if !reflect.DeepEqual(types, change.Types(seen)) || schema.Wrong(types) != (api.Fault{}) {
		t.Errorf("%v, not %v", types, change.Types(seen))
	}
}

func TestFind(t *testing.T) {
	l := []api.Part{part(typ("tag", word("x")), nil), part(typ("user"), homes(home(0, "man"))), part(typ("tag"), nil), part(typ("A"), nil), part(typ(""), nil)}
	for name, want := range map[string]int{"tag": 0, "user": 1, "A": 3, "": 4, "x": -1, "man": -1, "use": -1, "users": -1} {
		if got := Find(l, name); got != want {
			t.Errorf("Find %q: %d, not %d", name, got, want)
		}
	}
	for _, none := range [][]api.Part{nil, {}, l[:0]} {
		if got := Find(none, "tag"); got != -1 {
			t.Errorf("Find in nothing: %d", got)
		}
	}
	if got := Find(l[:2], "A"); got != -1 {
		t.Errorf("Find looks at the spare room: %d", got)
	}
}

// roomy answers services that go together, with spare room that would not do behind each list.
func roomy() []api.Service {
	l := append(make([]api.Service, 0, 9), names(), seenAs(bosses(), callT("man", "user")))
	l[0].Types[0].Fields = append(l[0].Types[0].Fields, word("A"))[:1]
	l[0].Types = append(l[0].Types, typ("A"))[:2]
	l[1].Changes = append(l[1].Changes, api.Change{})[:1]
	keys := []string{"zoe", "A"}[:1]
	l[1].Things = append(make([]api.Thing, 0, 2), api.Thing{Type: "man", Key: "ann", Vals: []api.Val{{Field: "boss", Keys: keys}, {Field: "call"}, {Field: "A"}}[:2]})
	for i := range api.MaxServices {
		l = append(l, has(typ("A"+strconv.Itoa(i))))
	}
	return l[:2]
}

// wide answers services as they are up to the ends of their spare room.
func wide(l []api.Service) []api.Service {
	l = slices.Clone(l[:cap(l)])
	for i := range l {
		l[i].Types = slices.Clone(l[i].Types[:cap(l[i].Types)])
		for j, t := range l[i].Types {
			l[i].Types[j].Fields = t.Fields[:cap(t.Fields)]
		}
		l[i].Changes = l[i].Changes[:cap(l[i].Changes)]
		l[i].Things = l[i].Things[:cap(l[i].Things)]
	}
	return l
}

func TestOnlyRead(t *testing.T) {
	l := roomy()
	got, f := All(l)
	if f != (api.Fault{}) || Wrong(l) != (api.Fault{}) || len(got) != 2 {
		t.Errorf("%v %v", got, f)
	}
	if !reflect.DeepEqual(wide(l), wide(roomy())) {
		t.Error("what was handed in was changed")
	}
	parts, again := slices.Clone(got), slices.Clone(got)
	Find(parts[:1], "user")
	if !reflect.DeepEqual(parts, again) {
		t.Error("what was handed to Find was changed")
	}
}

// TestNewMemory: what is answered stays as it is when what was handed in changes, and the other way round, and so do its lists beside each other.
func TestNewMemory(t *testing.T) {
	l := roomy()
	got, _ := All(l)
	want, _ := All(roomy())
	for i := range l {
		for j := range l[i].Types {
			clear(l[i].Types[j].Fields)
		}
		clear(l[i].Types)
		clear(l[i].Changes)
	}
	if !same(got, want) {
		t.Error("what was handed in is kept")
	}
	l = roomy()
	got, _ = All(l)
	for i := range got {
		p := &got[i]
		clear(p.Type.Fields[:cap(p.Type.Fields)])
		p.Type.Fields = want[i].Type.Fields
		clear(p.Owners[:cap(p.Owners)])
		p.Owners = want[i].Owners
		clear(p.Homes[:cap(p.Homes)])
		p.Homes = want[i].Homes
		if !same(got, want) {
			t.Error("two lists of an answer share memory")
		}
	}
	for _, p := range got[:cap(got)] {
		clear(p.Type.Fields[:cap(p.Type.Fields)])
	}
	if !reflect.DeepEqual(wide(l), wide(roomy())) {
		t.Error("an answer shares memory with what was handed in")
	}
}
