package gate

import (
	"slices"

	"stitchery/api"
	"stitchery/query"
	"stitchery/schema"
)

// list is what was asked of some things of a part, and what services said of them.
type list struct {
	choices []choice
	homes   map[string]int    // by key: how many homes have that thing
	vals    map[place]api.Val // of things that their owners have
}

// choice is a pick, with what the part knows of its field; next: what was asked of the things that the field leads to.
type choice struct {
	name  string
	picks []api.Pick
	field api.Field
	owner api.Owner
	next  list
}

// place is where a val comes from.
type place struct {
	owner api.Owner
	key   string
}

// newList answers a list of which nothing has been said yet; Check went ahead: the part has all fields.
func newList(part api.Part, picks []api.Pick) list {
	l := list{homes: map[string]int{}, vals: map[place]api.Val{}}
	for _, p := range picks {
		i := schema.Field(part.Type.Fields, p.Field)
		l.choices = append(l.choices, choice{name: query.Called(p), picks: p.Picks, field: part.Type.Fields[i], owner: part.Owners[i]})
	}
	return l
}

// fieldsOf answers the own names of the fields that are asked of a home, each once.
func (l list) fieldsOf(home api.Owner) []string {
	var fields []string
	for _, c := range l.choices {
		if c.owner.Service == home.Service && c.owner.Type == home.Type && !slices.Contains(fields, c.owner.Field) {
			fields = append(fields, c.owner.Field)
		}
	}
	return fields
}

// add keeps what a home said of these keys.
func (l list) add(home api.Owner, keys []string, r api.Reply) {
	for i, found := range r.Found {
		if !found {
			continue
		}
		l.homes[keys[i]]++
		for _, v := range r.Vals[i] {
			owner := api.Owner{Service: home.Service, Type: home.Type, Field: v.Field}
			l.vals[place{owner, keys[i]}] = v
		}
	}
}

// keysOf answers the keys that a field of the things of these keys has, each once.
func (l list) keysOf(owner api.Owner, keys []string) []string {
	var next []string
	times := map[string]int{}
	for _, key := range keys {
		for _, to := range l.vals[place{owner, key}].Keys {
			if times[to] == 0 {
				next = append(next, to)
			}
			times[to]++
		}
	}
	return next
}

// tell answers what was got of the thing of that key, and whether it is there.
func (l list) tell(key string) ([]api.Got, bool) {
	if l.homes[key] == 0 {
		return nil, false
	}
	var out []api.Got
	for _, c := range l.choices {
		out = append(out, l.got(c, key))
	}
	return out, true
}

func (l list) got(c choice, key string) api.Got {
	g := api.Got{Name: c.name, Kind: c.field.Kind}
	v, there := l.vals[place{c.owner, key}]
	if !there {
		g.Null = true
		return g
	}
	switch c.field.Kind {
	case api.Word:
		g.Text = v.Text
	case api.List:
		g.Subs = c.next.tellEach(v.Keys)
	case api.One:
		// One has one key at most, and without a thing of it there is nothing to tell.
		if subs := c.next.tellEach(v.Keys); len(subs) > 0 {
			g.Sub = subs[0]
		} else {
			g.Null = true
		}
	}
	return g
}

// tellEach tells of each key in turn, as often as it stands there, so that no two of the lists that it answers share memory.
func (l list) tellEach(keys []string) [][]api.Got {
	var out [][]api.Got
	for _, key := range keys {
		if got, there := l.tell(key); there {
			out = append(out, got)
		}
	}
	return out
}
