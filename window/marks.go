package window

const wordBits = 64

// marks are bits of words.
type marks []uint64

// room are marks for so many places, none of them set.
func room(places int) marks {
	return make(marks, (places+wordBits-1)/wordBits)
}

func (m marks) has(place uint64) bool { return m[place/wordBits]&bit(place) != 0 }

func (m marks) set(place uint64) { m[place/wordBits] |= bit(place) }

func (m marks) wipe(place uint64) { m[place/wordBits] &^= bit(place) }

// bit is that of a place within its word.
func bit(place uint64) uint64 { return 1 << (place % wordBits) }
