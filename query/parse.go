package query

import "stitchery/api"

// Parse answers what a text asks, or what is wrong with it, and at which byte.
func Parse(s string) (a api.Ask, f api.Fault) {
	if len(s) > api.MaxQuery {
		return api.Ask{}, api.Fault{Err: api.ErrMuch}
	}
	defer func() {
		if x := recover(); x != nil {
			a, f = api.Ask{}, x.(api.Fault) // the reader throws nothing else
		}
	}()
	r := reader{text: s}
	return r.ask(), api.Fault{}
}

// reader reads a text from the left; each of its methods throws the first fault that it comes to.
type reader struct {
	text  string
	at    int
	picks int // so far, in all
}

func throw(err api.Errno, at int) { panic(api.Fault{Err: err, At: at}) }

func (r *reader) ask() api.Ask {
	var a api.Ask
	a.Type = r.name()
	r.sign('(')
	a.Key = r.name()
	r.sign(')')
	a.Picks = r.list(1)
	r.end()
	return a
}

func (r *reader) list(deep int) []api.Pick {
	if deep > api.MaxDeep {
		throw(api.ErrMuch, r.at)
	}
	r.sign('{')
	var picks []api.Pick
	// A list has one pick at least: its end isn't looked for ahead of that.
	for len(picks) == 0 || !r.comes('}') {
		picks = append(picks, r.pick(deep))
	}
	r.sign('}')
	return picks
}

// pick reads a pick of a list that is so deep.
func (r *reader) pick(deep int) api.Pick {
	p := api.Pick{Field: r.name()}
	r.picks++
	// What stands behind the name is not looked at yet: this comes ahead of it, from the left.
	if r.picks > api.MaxPicks {
		throw(api.ErrMany, r.at)
	}
	if r.comes(':') {
		r.sign(':')
		p.As = p.Field
		p.Field = r.name()
	}
	if r.comes('{') {
		p.Picks = r.list(deep + 1)
	}
	return p
}

func (r *reader) name() string {
	r.blanks()
	from := r.at
	if from == len(r.text) || !letter(r.text[from]) {
		throw(api.ErrForm, from)
	}
	for r.at < len(r.text) && (letter(r.text[r.at]) || digit(r.text[r.at])) {
		r.at++
	}
	if r.at-from > api.MaxName {
		throw(api.ErrName, from)
	}
	return r.text[from:r.at]
}

func (r *reader) sign(c byte) {
	if !r.comes(c) {
		throw(api.ErrForm, r.at)
	}
	r.at++
}

// comes goes behind blanks, and tells whether c stands there.
func (r *reader) comes(c byte) bool {
	r.blanks()
	return r.at < len(r.text) && r.text[r.at] == c
}

func (r *reader) end() {
	r.blanks()
	if r.at < len(r.text) {
		throw(api.ErrForm, r.at)
	}
}

func (r *reader) blanks() {
	for r.at < len(r.text) && (r.text[r.at] == ' ' || r.text[r.at] == '\n') {
		r.at++
	}
}

func letter(c byte) bool { return c >= 'a' && c <= 'z' }

func digit(c byte) bool { return c >= '0' && c <= '9' }
