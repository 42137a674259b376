package query

import (
	"testing"

	"stitchery/api"
	"stitchery/merge"
)

func word(name string) api.Field { return api.Field{Name: name, Kind: api.Word} }

func one(name, typ string) api.Field { return api.Field{Name: name, Kind: api.One, Type: typ} }

func list(name, typ string) api.Field { return api.Field{Name: name, Kind: api.List, Type: typ} }

func part(name string, fields ...api.Field) api.Part {
	return api.Part{Type: api.Type{Name: name, Fields: fields}}
}

// parts answers posts and users; of a post a field is of a type that is none.
func parts() []api.Part {
	return []api.Part{
		part("post", one("by", "user"), word("text"), one("bad", "none")),
		part("user", word("name"), one("boss", "user"), list("posts", "post")),
	}
}

type checkCase struct {
	s    string
	want api.Errno
}

// lookChecked looks for what Check says of texts.
func lookChecked(t *testing.T, l []api.Part, cases []checkCase) {
	t.Helper()
	for _, c := range cases {
		a, f := Parse(c.s)
		if f != (api.Fault{}) {
			t.Errorf("%q: %v", c.s, f)
		}
		if got := Check(l, a); got != c.want {
			t.Errorf("%q: %v, not %v", c.s, got, c.want)
		}
	}
}

func TestCheck(t *testing.T) {
	lookChecked(t, parts(), []checkCase{
		{"user(ann){name}", api.OK},
		{"user(ann){name boss{name} posts{text}}", api.OK},
		{"user(ann){name chief:boss{name}}", api.OK},
		{"user(ann){a:name b:name name}", api.OK},
		{"user(ann){name:boss{name} boss:name}", api.OK},
		{"user(ann){posts{by{name posts{by{boss{name}}}}}}", api.OK},
		{"post(x){by{name} text}", api.OK},
		{deep(api.MaxDeep), api.OK},
		// One name in two lists is no matter.
		{"user(ann){name boss{name boss{name}} posts{name:text}}", api.OK},
		{"user(ann){a:boss{a:name} b:boss{a:name}}", api.OK},
	})
}

func TestCheckNone(t *testing.T) {
	lookChecked(t, parts(), []checkCase{
		{"tag(ann){name}", api.ErrNone},
		{"use(ann){name}", api.ErrNone},
		{"user(ann){zz}", api.ErrNone},
		{"user(ann){name:zz}", api.ErrNone},
		{"user(ann){zz{name}}", api.ErrNone},
		{"user(ann){text}", api.ErrNone},
		{"post(x){name}", api.ErrNone},
		{"user(ann){name boss{name zz}}", api.ErrNone},
		{"user(ann){boss{by{name}}}", api.ErrNone},
		{"user(ann){posts{name}}", api.ErrNone},
		{"post(x){bad{name}}", api.ErrNone},
		{"user(ann){posts{bad{name}}}", api.ErrNone},
	})
	for _, l := range [][]api.Part{nil, {}, make([]api.Part, 3)} {
		lookChecked(t, l, []checkCase{{"user(ann){name}", api.ErrNone}})
	}
}

func TestCheckCalled(t *testing.T) {
	lookChecked(t, parts(), []checkCase{
		{"user(ann){name name}", api.ErrName},
		{"user(ann){name boss{name} name}", api.ErrName},
		{"user(ann){a:name a:name}", api.ErrName},
		{"user(ann){a:name a:boss{name}}", api.ErrName},
		{"user(ann){name:name name}", api.ErrName},
		{"user(ann){name name:name}", api.ErrName},
		{"user(ann){name:boss{name} name}", api.ErrName},
		{"user(ann){boss{name name}}", api.ErrName},
		{"user(ann){posts{by{a:name a:name}}}", api.ErrName},
	})
}

func TestCheckFit(t *testing.T) {
	lookChecked(t, parts(), []checkCase{
		{"user(ann){boss}", api.ErrFit},
		{"user(ann){posts}", api.ErrFit},
		{"user(ann){name{name}}", api.ErrFit},
		{"user(ann){name{zz}}", api.ErrFit},
		{"user(ann){name boss{boss}}", api.ErrFit},
		{"user(ann){posts{text{text}}}", api.ErrFit},
		{"post(x){bad}", api.ErrFit},
	})
	// A word's Type means nothing; a kind that is none is no word.
	odd := []api.Part{part("user", api.Field{Name: "name", Kind: api.Word, Type: "user"}, api.Field{Name: "zero", Type: "user"}, api.Field{Name: "nine", Kind: 9, Type: "none"})}
	lookChecked(t, odd, []checkCase{
		{"user(ann){name}", api.OK},
		{"user(ann){name{name}}", api.ErrFit},
		{"user(ann){zero}", api.ErrFit},
		{"user(ann){zero{name}}", api.OK},
		{"user(ann){nine}", api.ErrFit},
		{"user(ann){nine{name}}", api.ErrNone},
	})
}

func TestCheckInTurn(t *testing.T) {
	lookChecked(t, parts(), []checkCase{
		{"tag(ann){name name}", api.ErrNone},
		{"user(ann){name name:zz}", api.ErrNone},
		{"user(ann){zz{name} name name}", api.ErrNone},
		{"user(ann){name name{name}}", api.ErrName},
		{"user(ann){name name:boss}", api.ErrName},
		{"user(ann){name name zz}", api.ErrName},
		{"user(ann){boss{name} boss{zz}}", api.ErrName},
		{"user(ann){boss zz}", api.ErrFit},
		{"user(ann){name{name} name}", api.ErrFit},
		{"user(ann){boss{boss} zz}", api.ErrFit},
		{"user(ann){boss{zz} posts}", api.ErrNone},
		{"user(ann){boss{name name} zz}", api.ErrName},
		{"post(x){bad{a} zz}", api.ErrNone},
		{"post(x){bad{a a} by}", api.ErrNone},
		{"post(x){by bad{a}}", api.ErrFit},
	})
	for want, a := range map[api.Errno]api.Ask{
		api.ErrMany: ask("tag", "ann"),
		api.ErrName: ask("user", "ann", pick("zz"), pick("A")),
		api.ErrMuch: nestedOf(api.MaxDeep, pick("zz")),
	} {
		if got := Check(parts(), a); got != want {
			t.Errorf("what Wrong says goes ahead: %v, not %v", got, want)
		}
	}
}

// TestCheckFirst: the first part, and the first field, of a name is it.
func TestCheckFirst(t *testing.T) {
	l := []api.Part{part("user", word("a"), one("a", "user")), part("user", word("b"))}
	lookChecked(t, l, []checkCase{
		{"user(ann){a}", api.OK},
		{"user(ann){a{a}}", api.ErrFit},
		{"user(ann){b}", api.ErrNone},
	})
}

// TestCheckMerged: what is seen of all services can be asked for, by the names that are seen, and what is hidden can't.
func TestCheckMerged(t *testing.T) {
	l, f := merge.All([]api.Service{
		{Types: []api.Type{{Name: "user", Fields: []api.Field{word("name"), word("secret")}}},
			Changes: []api.Change{{Kind: api.Hide, Type: "user", Field: "secret"}}},
		{Types: []api.Type{{Name: "man", Fields: []api.Field{one("boss", "man")}}},
			Changes: []api.Change{{Kind: api.CallType, Type: "man", To: "user"}}},
	})
	if f != (api.Fault{}) {
		t.Fatal(f)
	}
	lookChecked(t, l, []checkCase{
		{"user(ann){name chief:boss{name}}", api.OK},
		{"user(ann){secret}", api.ErrNone},
		{"man(ann){boss{name}}", api.ErrNone},
	})
}
