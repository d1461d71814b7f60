package audit

import "pawl/api"

// The numbers of the rules.
const (
	ruleForm = 1 + iota
	ruleMissing
	ruleNumbers
	ruleBounds
	ruleSent
	ruleHeard
	ruleKept
	ruleAgain
)

// machine goes along the lines of a trace, and plays the protocol beside it. Its state is what it does next with the answer that lies before it: it looks at it by a rule, or does what follows of it. At the end there is none.
type machine struct {
	state    func()
	commands map[string]command
	known    knowledge
	lines    []line
	at       int // how many of them it has come to
	broken   int // the number of the rule that is broken

	// Of the line that it has come to:
	asked api.Command
	told  answer
	due   outcome
}

func newMachine(lines []line) *machine {
	m := &machine{commands: commands(), known: newKnowledge(), lines: lines}
	m.state = m.next
	return m
}

// run answers the number of the first rule that is broken, and that of the line that breaks it; or 0 and 0.
func (m *machine) run() (rule, at int) {
	for m.state != nil {
		m.state()
	}
	if m.broken == 0 {
		return 0, 0
	}
	return m.broken, m.at
}

// judge goes on to the next state, if a rule holds; else that is the end.
func (m *machine) judge(rule int, holds bool, next func()) {
	m.state = next
	if !holds {
		m.state, m.broken = nil, rule
	}
}

// command is what there is to know of the command that is answered.
func (m *machine) command() command { return m.commands[m.asked.Word] }

func (m *machine) next() {
	if m.at == len(m.lines) {
		m.state = nil
		return
	}
	m.asked = m.lines[m.at].asked
	m.at++
	m.state = m.form
}

func (m *machine) form() {
	told, ok := read(m.command().forms, m.lines[m.at-1].answer)
	m.told = told
	m.judge(ruleForm, ok, m.missing)
}

func (m *machine) missing() {
	is := m.told[0] == missing
	next := m.play
	if is {
		next = m.next
	}
	there := m.command().there
	m.judge(ruleMissing, there == nil || there(&m.known, m.asked.Args) != is, next)
}

func (m *machine) play() {
	m.due = m.command().play(&m.known, m.asked.Args)
	m.state = m.numbers
}

func (m *machine) numbers() {
	holds := m.told[0] != sent ||
		m.told[1] == number(len(m.known.envelopes)+1) && (m.due.size == 0 || m.told[2] == number(m.due.size))
	m.judge(ruleNumbers, holds, m.bounds)
}

// bounds: whatever tells of work is told to the side that the command names last.
func (m *machine) bounds() {
	trials, steps := m.told.work()
	to := m.known.sides[m.asked.Args[len(m.asked.Args)-1]]
	holds := to == nil || !above(trials, to.config.Store+2) && !above(steps, 2*to.config.Skip+1)
	m.judge(ruleBounds, holds, m.must)
}

// must is one of three rules: which one, the command tells.
func (m *machine) must() {
	m.judge(m.command().rule, m.due.must == nil || m.told.is(m.due.must), m.again)
}

func (m *machine) again() {
	m.judge(ruleAgain, m.told[0] != export || m.known.agrees(m.known.sides[m.asked.Args[0]], m.told[2]), m.follow)
}

// follow does what follows of an answer that is right, or is believed. Whatever is refused changes nothing.
func (m *machine) follow() {
	if m.told[0] != refused && m.due.then != nil {
		m.due.then()
	}
	m.state = m.next
}
