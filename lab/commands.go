package lab

import (
	"pawl/api"
	"pawl/script"
)

const (
	alice = "alice"
	bob   = "bob"

	withOnce = "once"
	without  = "none"

	mostName = 16 // letters of a name under which something is kept
)

// command is what stands behind a command in its line, and what playing it does: it answers what the trace's line tells.
type command struct {
	form script.Form
	play func(b *bench, args []string) string
}

func commands() map[string]command {
	version, once := script.OneOf("1", "2"), script.OneOf(withOnce, without)
	side, name := script.OneOf(alice, bob), script.Letters(mostName)
	number, seed, hex := script.Number, script.Seed, script.Hex
	return map[string]command{
		"begin":  {script.Words(version, script.UpTo(api.MaxSkip), script.UpTo(api.MaxStore), seed, once), (*bench).begin},
		"send":   {script.WithContent(side, seed), (*bench).send},
		"bytes":  {script.Words(side, seed, hex), (*bench).bytes},
		"give":   {script.Words(number, side), (*bench).give},
		"turn":   {script.Words(number, number, side), (*bench).turn},
		"cut":    {script.Words(number, number, side), (*bench).cut},
		"join":   {script.Words(number, hex, side), (*bench).join},
		"extra":  {script.Words(number, hex, side), (*bench).widen},
		"forge":  {script.Words(hex, side), (*bench).forge},
		"forget": {script.Words(side, number), (*bench).forget},
		"export": {script.Words(side), (*bench).export},
		"save":   {script.Words(side, name), (*bench).save},
		"load":   {script.Words(side, name), (*bench).load},
		"import": {script.Words(side, hex), (*bench).take},
		"look":   {script.Words(side), (*bench).look},
	}
}
