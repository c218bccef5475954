package stone

import "macadam/api"

// reach is the least and the greatest that something is; there is none if the least is above the greatest.
type reach api.Span

func (r reach) isNone() bool { return r.Low > r.High }

func (r reach) and(s api.Span) reach { return reach{max(r.Low, s.Low), min(r.High, s.High)} }

func (r reach) or(s reach) reach { return reach{min(r.Low, s.Low), max(r.High, s.High)} }

func (r reach) same(int) reach { return r }

func (r reach) more(yards int) reach { return reach{r.Low + yards, r.High + yards} }

// less leaves out what is not enough for so many cubic yards.
func (r reach) less(yards int) reach { return reach{max(r.Low-yards, 0), r.High - yards} }

func just(n int) reach { return reach{n, n} }

func sum[T ~int](numbers ...T) T {
	var all T
	for _, n := range numbers {
		all += n
	}
	return all
}
