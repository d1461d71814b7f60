// Package script reads scripts: texts of lines, each line a command and its words, as doc/16-lab.md says. Which commands there are and what they do is the business of the layer that plays them.
package script

import (
	"strings"

	"pawl/api"
	"pawl/content"
)

// Form is what a command's line has behind the command: a word for each of these, which tells whether it may stand there; and, if it ends with a content, the content's line, up to the end.
type Form struct {
	words   []func(word string) bool
	content bool
}

// Words is the form of a line that has these words, WithContent that of one with a content behind them.
func Words(words ...func(word string) bool) Form { return Form{words: words} }

func WithContent(words ...func(word string) bool) Form { return Form{words: words, content: true} }

// Table is the commands of a kind of script.
type Table struct {
	First string                            // the one that a script begins with; it stands nowhere else
	Form  func(command string) (Form, bool) // the form of a command, and whether there is one of that name
	Wrong api.Errno                         // the reason why a line is refused that has no command's form
}

// Read is the commands of a script. An error is an *api.Fault: of the text, or of its first line that is wrong.
func (t Table) Read(text string) ([]api.Command, error) {
	if len(text) > api.MaxScript {
		return nil, &api.Fault{Why: api.ErrLong}
	}
	var all []api.Command
	for i, line := range strings.Split(strings.TrimSuffix(text, "\n"), "\n") {
		c, at, why := t.line(line, len(all))
		if why != api.OK {
			return nil, &api.Fault{Line: i + 1, At: at, Why: why}
		}
		if c.Word != "" {
			c.Line = i + 1
			all = append(all, c)
		}
	}
	return all, nil
}

// line is the command of a line that has so many commands ahead of it (without a word, if the line is none), or the place and the reason of its fault.
func (t Table) line(text string, ahead int) (api.Command, int, api.Errno) {
	if len(text) > api.MaxLine {
		return api.Command{}, api.MaxLine, api.ErrLong
	}
	r := reader{text: text}
	word := r.word()
	if word == "" || word[0] == '#' {
		return api.Command{}, 0, api.OK
	}
	if ahead == api.MaxOps {
		return api.Command{}, 0, api.ErrLong
	}
	form, known := t.Form(word)
	if !known || (word == t.First) != (ahead == 0) {
		return api.Command{}, r.begin, t.Wrong
	}
	args, why := r.args(form, t.Wrong)
	if why != api.OK {
		return api.Command{}, r.begin, why
	}
	return api.Command{Word: word, Args: args}, 0, api.OK
}

// reader goes through a line: begin is where what it read last begins, end where that ends. Having met something wrong, it has begin at the fault's place.
type reader struct {
	text       string
	begin, end int
}

// word reads the next word; at the line's end an empty one.
func (r *reader) word() string {
	word, _, _ := strings.Cut(r.rest(), " ")
	r.end = r.begin + len(word)
	return word
}

// rest reads all from the next word on.
func (r *reader) rest() string {
	rest := strings.TrimLeft(r.text[r.end:], " ")
	r.begin, r.end = len(r.text)-len(rest), len(r.text)
	return rest
}

// args reads what a form wants. (At the line's end an empty word comes, which no form takes: so what is missing is told there.)
func (r *reader) args(form Form, wrong api.Errno) ([]string, api.Errno) {
	var args []string
	for _, fits := range form.words {
		word := r.word()
		if !fits(word) {
			return nil, wrong
		}
		args = append(args, word)
	}
	rest := r.rest()
	if form.content != (rest != "") {
		return nil, wrong
	}
	if !form.content {
		return args, api.OK
	}
	if _, at, why := content.Parse(rest); why != api.OK {
		r.begin += at
		return nil, why
	}
	return append(args, rest), api.OK
}
