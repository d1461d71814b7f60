package prekeys

import (
	"slices"

	"pawl/api"
	"pawl/tree"
)

// label is what tells a device from all others of a directory.
type label struct {
	name   string
	number int
}

// Directory is the listings, the keys for once, and the log: Root, Path and Growth are the log's own. (Append, Len and Leaves come along with it; to append is for Enter alone, so that each leaf has its listing.)
type Directory struct {
	tree.Log
	listings []api.Listing
	owners   map[string]api.Key // the identity of each name
	devices  map[label]*record
}

// New: of nobody; From: behind these listings, entered one behind the other.
func New() *Directory {
	return &Directory{Log: *tree.New(), owners: map[string]api.Key{}, devices: map[label]*record{}}
}

func From(l []api.Listing) (*Directory, api.Errno) {
	d := New()
	for _, one := range l {
		if _, why := d.Enter(one); why != api.OK {
			return nil, why
		}
	}
	return d, api.OK
}

// Enter takes a listing: its place in the log. Stock lays keys for once ready.
func (d *Directory) Enter(l api.Listing) (int, api.Errno) {
	if d.devices == nil { // New did not make it
		*d = *New()
	}
	if why := d.refusal(l); why != api.OK {
		return 0, why
	}
	at, why := d.Append(leaf(l))
	if why != api.OK {
		return 0, why
	}
	d.listings = append(d.listings, l)
	d.owners[l.Name] = l.Identity
	d.list(label{l.Name, l.Device}, at)
	return at, api.OK
}

func (d *Directory) Stock(name string, device int, onces []api.Key) api.Errno {
	r, why := d.open(name, device)
	if why != api.OK {
		return why
	}
	return r.stock(onces)
}

// Fetch gives out a device's listing, and a key for once, if there is one. Find is the listing alone; Devices the numbers of those that are not gone; Ready how many keys for once lie ready.
func (d *Directory) Fetch(name string, device int) (api.Offered, api.Errno) {
	r, why := d.open(name, device)
	if why != api.OK {
		return api.Offered{}, why
	}
	once, there := r.take()
	return api.Offered{Listing: d.listings[r.at], At: r.at, Size: d.Size(), Once: once, HasOnce: there}, api.OK
}

func (d *Directory) Find(name string, device int) (api.Listing, int, api.Errno) {
	r, there := d.devices[label{name, device}]
	if !there {
		return api.Listing{}, 0, api.ErrNobody
	}
	return d.listings[r.at], r.at, api.OK
}

func (d *Directory) Devices(name string) []int {
	var l []int
	for device := 1; device <= api.MaxDevices; device++ {
		if _, why := d.open(name, device); why == api.OK {
			l = append(l, device)
		}
	}
	return l
}

func (d *Directory) Ready(name string, device int) (int, api.Errno) {
	r, there := d.devices[label{name, device}]
	if !there {
		return 0, api.ErrNobody
	}
	return len(r.ready), api.OK
}

// Size is how many listings were entered; Listings all of them.
func (d *Directory) Size() int { return len(d.listings) }

func (d *Directory) Listings() []api.Listing { return slices.Clone(d.listings) }

// refusal is why a listing is not entered, but for a log that is full.
func (d *Directory) refusal(l api.Listing) api.Errno {
	if why := Check(l); why != api.OK {
		return why
	}
	owner, known := d.owners[l.Name]
	last, _, found := d.Find(l.Name, l.Device)
	switch {
	case known && owner != l.Identity:
		return api.ErrTaken
	case last.Gone:
		return api.ErrGone
	case found == api.OK && l.Number <= last.Number:
		return api.ErrStale
	case !known && len(d.owners) >= api.MaxPeople:
		return api.ErrLong
	}
	return api.OK
}

// list lets the listing at a place be a device's; what is kept of keys for once stays.
func (d *Directory) list(of label, at int) {
	if d.devices[of] == nil {
		d.devices[of] = newRecord()
	}
	d.devices[of].at = at
}

// open is the record of a device that can be written to.
func (d *Directory) open(name string, device int) (*record, api.Errno) {
	l, _, why := d.Find(name, device)
	if why != api.OK {
		return nil, why
	}
	if l.Gone {
		return nil, api.ErrGone
	}
	return d.devices[label{name, device}], api.OK
}
