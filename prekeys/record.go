package prekeys

import (
	"slices"

	"pawl/api"
)

// record is what a directory keeps of a device: the place of its listing, the keys for once that lie ready, the oldest first, and all that ever came.
type record struct {
	at    int
	ready []api.Key
	came  map[api.Key]struct{}
}

func newRecord() *record { return &record{came: map[api.Key]struct{}{}} }

// stock lays all of these keys ready, or none. All is asked ahead of the first that is laid, so that nothing has to be undone.
func (r *record) stock(onces []api.Key) api.Errno {
	if r.spent(onces) {
		return api.ErrSpent
	}
	if len(r.ready)+len(onces) > api.MaxOnces || len(r.came)+len(onces) > api.MaxLeaves {
		return api.ErrLong
	}
	r.ready = append(r.ready, onces...)
	for _, once := range onces {
		r.came[once] = struct{}{}
	}
	return api.OK
}

// spent: one of these keys ever came, or stands among them twice.
func (r *record) spent(onces []api.Key) bool {
	seen := map[api.Key]struct{}{}
	for _, once := range onces {
		_, came := r.came[once]
		_, twice := seen[once]
		if came || twice {
			return true
		}
		seen[once] = struct{}{}
	}
	return false
}

// take takes out the key that lay ready longest, if one lies ready.
func (r *record) take() (api.Key, bool) {
	if len(r.ready) == 0 {
		return api.Key{}, false
	}
	once := r.ready[0]
	r.ready = slices.Delete(r.ready, 0, 1)
	return once, true
}
