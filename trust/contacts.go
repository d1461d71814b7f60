package trust

import (
	"slices"
	"strings"

	"pawl/api"
)

// nobody is the State of what is found where there is no contact: none of the four that contacts have.
const nobody = 0

// contacts are those of a book, by their names rising.
type contacts []api.Contact

// rules are those of the events, by their kinds: each tells whether an event can be, and lets it be, if so. The contact that it leaves is told anew, so that no key waits but behind EvChanged.
func rules() map[int]func(*contacts, api.Event) bool {
	return map[int]func(*contacts, api.Event) bool{
		api.EvSeen:      (*contacts).seen,
		api.EvChanged:   (*contacts).changed,
		api.EvAccepted:  (*contacts).accepted,
		api.EvVerified:  (*contacts).verified,
		api.EvBlocked:   (*contacts).blocked,
		api.EvUnblocked: (*contacts).unblocked,
		api.EvForgotten: (*contacts).forgotten,
	}
}

func (l *contacts) seen(e api.Event) bool {
	at, there := l.place(e.Name)
	if there || l.full() {
		return false
	}
	*l = slices.Insert(*l, at, api.Contact{Name: e.Name, Key: e.Key, State: api.Seen})
	return true
}

func (l *contacts) changed(e api.Event) bool {
	c := l.find(e.Name)
	decided := isCalm(c) && e.Key != c.Key
	open := c.State == api.Changed && e.Key != c.Key && e.Key != c.Next
	if !decided && !open {
		return false
	}
	l.put(api.Contact{Name: c.Name, Key: c.Key, Next: e.Key, State: api.Changed})
	return true
}

func (l *contacts) accepted(e api.Event) bool {
	c := l.find(e.Name)
	if c.State != api.Changed || e.Key != c.Next {
		return false
	}
	l.put(api.Contact{Name: c.Name, Key: e.Key, State: api.Seen})
	return true
}

func (l *contacts) verified(e api.Event) bool {
	c := l.find(e.Name)
	if c.State == nobody || c.State == api.Blocked || e.Key != latest(c) {
		return false
	}
	l.put(api.Contact{Name: c.Name, Key: e.Key, State: api.Verified})
	return true
}

func (l *contacts) blocked(e api.Event) bool {
	c := l.find(e.Name)
	if c.State == nobody || c.State == api.Blocked || e.Key != (api.Key{}) {
		return false
	}
	l.put(api.Contact{Name: c.Name, Key: c.Key, State: api.Blocked})
	return true
}

func (l *contacts) unblocked(e api.Event) bool {
	c := l.find(e.Name)
	if c.State != api.Blocked || e.Key != (api.Key{}) {
		return false
	}
	l.put(api.Contact{Name: c.Name, Key: c.Key, State: api.Seen})
	return true
}

func (l *contacts) forgotten(e api.Event) bool {
	at, there := l.place(e.Name)
	if !there || e.Key != (api.Key{}) {
		return false
	}
	*l = slices.Delete(*l, at, at+1)
	return true
}

// place is where the contact of a name stands, or would stand, and whether there is one.
func (l contacts) place(name string) (int, bool) {
	return slices.BinarySearchFunc(l, name, func(c api.Contact, name string) int {
		return strings.Compare(c.Name, name)
	})
}

// find is the contact of a name; its State is nobody, if there is none.
func (l contacts) find(name string) api.Contact {
	at, there := l.place(name)
	if !there {
		return api.Contact{}
	}
	return l[at]
}

// put lets c stand where the contact of its name, which there is, stood.
func (l contacts) put(c api.Contact) {
	at, _ := l.place(c.Name)
	l[at] = c
}

func (l contacts) full() bool { return len(l) >= api.MaxContacts }

// isCalm: its key may be used.
func isCalm(c api.Contact) bool { return c.State == api.Seen || c.State == api.Verified }

// latest is the key that somebody would hear read aloud: the one that waits, or else the one that stands.
func latest(c api.Contact) api.Key {
	if c.State == api.Changed {
		return c.Next
	}
	return c.Key
}
