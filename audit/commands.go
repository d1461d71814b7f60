package audit

// command is how a command may be answered, and what comes of it.
type command struct {
	forms []form                                 // an answer is of one of these
	there func(k *knowledge, args []string) bool // whether what the command names is there; nil, if it names nothing that could be missing
	play  func(k *knowledge, args []string) outcome
	rule  int // the one that an answer breaks which is not what must come
}

func commands() map[string]command {
	gone, loaded := formOf(missing), formOf("loaded", isNumber)
	notDone, notHeard := formOf(refused, isNumber, isNumber), formOf(refused, isNumber, isNumber, isNumber, isNumber)
	ofSending := []form{formOf(sent, isNumber, isNumber), notDone}
	ofForging := []form{formOf(heard, isNumber, isNumber, isLine), formOf(bytes, isNumber, isNumber, isBytes), notHeard}
	ofPassing := append([]form{gone}, ofForging...)
	only := func(word string, others ...func(word string) bool) []form { return []form{formOf(word, others...)} }
	return map[string]command{
		"begin":  {forms: only("begun", isSafety), play: (*knowledge).begin},
		"send":   {ofSending, nil, (*knowledge).send, ruleSent},
		"bytes":  {ofSending, nil, (*knowledge).bytes, ruleSent},
		"give":   {ofPassing, (*knowledge).has, (*knowledge).give, ruleHeard},
		"turn":   {ofPassing, (*knowledge).has, (*knowledge).turn, ruleHeard},
		"cut":    {ofPassing, (*knowledge).has, (*knowledge).cut, ruleHeard},
		"join":   {ofPassing, (*knowledge).has, (*knowledge).join, ruleHeard},
		"extra":  {ofPassing, (*knowledge).has, (*knowledge).widen, ruleHeard},
		"forge":  {forms: ofForging, play: (*knowledge).forge},
		"forget": {only("forgot", isNumber), nil, (*knowledge).forget, ruleKept},
		"export": {only(export, isNumber, isSum), nil, (*knowledge).export, ruleKept},
		"save":   {only("saved", isNumber), nil, (*knowledge).save, ruleKept},
		"load":   {[]form{gone, loaded}, (*knowledge).keeps, (*knowledge).load, ruleKept},
		"import": {forms: []form{loaded, notDone}, play: (*knowledge).take},
		"look":   {only("look", isNumber, isNumber, isNumber, isNumber, isFlag), nil, (*knowledge).look, ruleKept},
	}
}
