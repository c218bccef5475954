package surveyor

import "macadam/api"

func (s *state) staff(n numbers) {
	s.staffs = append(copied(s.staffs), api.RutStaff{Mile: n[0], Day: n[1], Read: n[2], Error: n[3]})
}

func (s *state) dig(n numbers) { s.load(api.StoneOut, n[0], n[1], n[2]) }

func (s *state) cart(n numbers) { s.load(n[0], n[1], n[2], n[3]) }

func (s *state) lay(n numbers) { s.load(n[0], api.StoneOut, n[1], n[2]) }

func (s *state) load(from, to, carter, told int) {
	s.loads = append(copied(s.loads), api.StoneMove{From: from, To: to, Carter: carter, Told: told})
}

func (s *state) pass(n numbers) {
	s.passes = append(copied(s.passes), api.WeighPass{Wagon: n[0], Load: api.Span{Low: n[1], High: n[2]}, Shown: n[3], Error: n[4], Paid: n[5]})
}

func (s *state) clock(n numbers) {
	s.clocks = append(copied(s.clocks), api.ClaimClock{Stage: n[0], Read: n[1], Error: n[2]})
}
