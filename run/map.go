package run

import (
	"slices"
	"strings"

	"spool/api"
)

// Map is a map with what is in it.
type Map struct {
	Name    string
	key     int // how many bytes a key has
	value   int
	most    int     // how many entries there may be
	entries []entry // rising by their keys
}

type entry struct {
	key   string
	value *region
}

// NewMap makes a map that is empty.
func NewMap(name string, key, value, most int) *Map {
	return &Map{Name: name, key: key, value: value, most: most}
}

// Entries tells what is in the map.
func (m *Map) Entries() []api.Entry {
	var out []api.Entry
	for _, e := range m.entries {
		out = append(out, api.Entry{Key: e.key, Value: string(e.value.bytes)})
	}
	return out
}

func (m *Map) find(key string) (int, bool) {
	return slices.BinarySearchFunc(m.entries, key, func(e entry, key string) int {
		return strings.Compare(e.key, key)
	})
}

func (m *Map) get(key string) Value {
	at, ok := m.find(key)
	if !ok {
		return Number(0)
	}
	return pointer(m.entries[at].value, 0)
}

// put answers false if there is no room.
func (m *Map) put(key, value string) bool {
	at, ok := m.find(key)
	if ok {
		copy(m.entries[at].value.bytes, value)
		return true
	}
	if len(m.entries) == m.most {
		return false
	}
	m.entries = slices.Insert(m.entries, at, entry{key, &region{[]byte(value)}})
	return true
}

// del answers false if the key is not there.
func (m *Map) del(key string) bool {
	at, ok := m.find(key)
	if !ok {
		return false
	}
	m.entries[at].value.die()
	m.entries = slices.Delete(m.entries, at, at+1)
	return true
}
