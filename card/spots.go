package card

import "deuce/api"

// spots is a set of spots of a card.
type spots [(api.MaxPoints+api.MaxMarks)/64 + 1]uint64

func (s *spots) add(spot int) { s[spot/64] |= 1 << (spot % 64) }

func (s *spots) has(spot int) bool { return s[spot/64]>>(spot%64)&1 == 1 }
