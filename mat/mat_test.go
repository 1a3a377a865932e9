package mat_test

import (
	"fmt"
	"math"
	"math/big"
	"testing"

	"teetotum/api"
	"teetotum/mat"
	"teetotum/vec"
)

const (
	greatest int64 = math.MaxInt64
	least    int64 = math.MinInt64
)

// asked is a call, written out only where it is told.
type asked struct {
	name string
	args []any
}

func call(name string, args ...any) asked { return asked{name, args} }

func (a asked) String() string { return a.name + " of " + fmt.Sprint(a.args...) }

// is fails if got is not want.
func is[T comparable](t *testing.T, what asked, got, want T) {
	t.Helper()
	if got != want {
		t.Fatalf("%s: %v, want %v", what, got, want)
	}
}

// small are all matrices of the numbers -1, 0 and 1.
func small() []api.Mat {
	l := make([]api.Mat, 19683)
	for n := range l {
		rest := n
		for place := range 9 {
			l[n][place/3][place%3] = int64(rest%3 - 1)
			rest /= 3
		}
	}
	return l
}

// numbers are edges: 0, the ends of the program's own limits, the roots of the room, and its ends.
func numbers() []int64 {
	l := []int64{0, 1, 2, 6, api.MaxEntry, api.MaxRate, 1 << 21, 1<<31 - 1, 1 << 32, 1<<32 + 3, 3037000500, 1 << 62, greatest - 1, greatest}
	for _, x := range l[1:] {
		l = append(l, -x)
	}
	return append(l, least)
}

// edges are matrices of edge numbers, some of them of the ranks below 3, as far as the room tells.
func edges() []api.Mat {
	var l []api.Mat
	n := numbers()
	at := func(i int) int64 { return n[i%len(n)] }
	for i, x := range n {
		a := api.Vec{x, at(5*i + 2), at(7*i + 3)}
		b := api.Vec{at(11*i + 1), at(3*i + 5), at(2*i + 9)}
		c := api.Vec{at(13*i + 4), at(17*i + 6), x}
		l = append(l,
			api.Mat{a, b, c},
			api.Mat{b, vec.Scale(b, at(i+3)), a},
			api.Mat{a, c, vec.Add(a, vec.Scale(c, x))},
			api.Mat{vec.Scale(c, x), c, vec.Scale(c, -2)},
			api.Mat{{}, a, b},
			api.Mat{{}, {}, c},
			mat.Unit(x),
		)
	}
	return append(l, api.Mat{{least, least, least}, {least, least, least}, {least, least, least}})
}

// some are every so many of l.
func some(l []api.Mat, every int) []api.Mat {
	var few []api.Mat
	for i := 0; i < len(l); i += every {
		few = append(few, l[i])
	}
	return few
}

// each calls f with all small matrices, and with all edges.
func each(f func(m api.Mat)) {
	for _, l := range [][]api.Mat{small(), edges()} {
		for _, m := range l {
			f(m)
		}
	}
}

// eachPair calls f with pairs of matrices.
func eachPair(f func(a, b api.Mat)) {
	for _, l := range [][]api.Mat{some(small(), 101), some(edges(), 2)} {
		for _, a := range l {
			for _, b := range l {
				f(a, b)
			}
		}
	}
}

// eachTriple calls f with triples of matrices.
func eachTriple(f func(a, b, c api.Mat)) {
	for _, l := range [][]api.Mat{some(small(), 500), some(edges(), 5)} {
		for _, a := range l {
			for _, b := range l {
				for _, c := range l {
					f(a, b, c)
				}
			}
		}
	}
}

// vectors are three numbers each, near 0 and at the ends of the room.
func vectors() []api.Vec {
	return []api.Vec{
		{}, {1, 0, 0}, {0, 1, 0}, {0, 0, 1}, {1, -2, 3}, {-5, 7, 11},
		{api.MaxRate, -api.MaxRate, 1}, {greatest, least, -1}, {least, least, least}, {1 << 32, 3, 1 << 62},
	}
}

// around is x modulo 2^64, as a number with a sign.
func around(x *big.Int) int64 {
	turn := new(big.Int).Lsh(big.NewInt(1), 64)
	return int64(new(big.Int).Mod(x, turn).Uint64())
}

// product is of all its numbers.
func product(l ...int64) *big.Int {
	p := big.NewInt(1)
	for _, x := range l {
		p.Mul(p, big.NewInt(x))
	}
	return p
}

// minus is a times b, less c times d.
func minus(a, b, c, d int64) *big.Int {
	return new(big.Int).Sub(product(a, b), product(c, d))
}

// determinant is that of m, by the sum over all orders of the columns.
func determinant(m api.Mat) *big.Int {
	sum := new(big.Int)
	for i := range 3 {
		k, l := (i+1)%3, (i+2)%3
		sum.Add(sum, product(m[0][i], m[1][k], m[2][l]))
		sum.Sub(sum, product(m[0][i], m[1][l], m[2][k]))
	}
	return sum
}

// without is the determinant of what is left of m without the row i and the column k, its sign by where these stand.
func without(m api.Mat, i, k int) *big.Int {
	r, s, p, q := (i+1)%3, (i+2)%3, (k+1)%3, (k+2)%3
	return minus(m[r][p], m[s][q], m[r][q], m[s][p])
}

// placed is what f answers of each place.
func placed(f func(i, k int) *big.Int) api.Mat {
	var m api.Mat
	for i := range m {
		for k := range m[i] {
			m[i][k] = around(f(i, k))
		}
	}
	return m
}

// P8.1: each row with the three numbers.
func TestP1Times(t *testing.T) {
	for _, r := range []struct {
		m       api.Mat
		v, want api.Vec
	}{
		{api.Mat{{1, 2, 3}, {4, 5, 6}, {7, 8, 10}}, api.Vec{1, -1, 2}, api.Vec{5, 11, 19}},
		{api.Mat{{1, 2, 3}, {4, 5, 6}, {7, 8, 10}}, api.Vec{0, 1, 0}, api.Vec{2, 5, 8}},
		{api.Mat{{1, 2, 3}, {0, 0, 0}, {-1, 0, 1}}, api.Vec{4, 5, 6}, api.Vec{32, 0, 2}},
		{api.Mat{}, api.Vec{greatest, least, 1}, api.Vec{}},
		{api.Mat{{greatest, least, 1}, {1, 1, 1}, {2, 2, 2}}, api.Vec{}, api.Vec{}},
		{api.Mat{{greatest, 1, 0}, {least, 0, -1}, {1 << 32, 0, 0}}, api.Vec{1, 1, 1}, api.Vec{least, greatest, 1 << 32}},
		{api.Mat{{1 << 32, 0, 5}, {1 << 31, 0, 0}, {-1, 0, 0}}, api.Vec{1 << 32, 0, 1}, api.Vec{5, least, -1 << 32}},
	} {
		is(t, call("Times", r.m, r.v), mat.Times(r.m, r.v), r.want)
	}
	each(func(m api.Mat) {
		for _, v := range vectors() {
			got := mat.Times(m, v)
			for i, row := range m {
				sum := product(row[0], v[0])
				sum.Add(sum, product(row[1], v[1]))
				sum.Add(sum, product(row[2], v[2]))
				is(t, call("Times", m, v), got[i], around(sum))
				is(t, call("Times", m, v), got[i], vec.Dot(row, v))
			}
		}
	})
}

// P8.2: rows as columns.
func TestP2Turn(t *testing.T) {
	is(t, call("Turn"), mat.Turn(api.Mat{{1, 2, 3}, {4, 5, 6}, {7, 8, 9}}), api.Mat{{1, 4, 7}, {2, 5, 8}, {3, 6, 9}})
	is(t, call("Turn"), mat.Turn(api.Mat{{0, greatest, least}, {}, {}}), api.Mat{{}, {greatest, 0, 0}, {least, 0, 0}})
	each(func(m api.Mat) {
		want := api.Mat{{m[0][0], m[1][0], m[2][0]}, {m[0][1], m[1][1], m[2][1]}, {m[0][2], m[1][2], m[2][2]}}
		is(t, call("Turn", m), mat.Turn(m), want)
	})
}

// P8.3: rows of the first with columns of the second.
func TestP3Mul(t *testing.T) {
	a, b := api.Mat{{1, 2, 3}, {4, 5, 6}, {7, 8, 10}}, api.Mat{{1, 0, 2}, {-1, 3, 1}, {0, 1, -4}}
	for _, r := range []struct{ a, b, want api.Mat }{
		{a, b, api.Mat{{-1, 9, -8}, {-1, 21, -11}, {-1, 34, -18}}},
		{b, a, api.Mat{{15, 18, 23}, {18, 21, 25}, {-24, -27, -34}}},
		{a, mat.Unit(1), a},
		{mat.Unit(1), a, a},
		{a, api.Mat{}, api.Mat{}},
		{api.Mat{}, a, api.Mat{}},
		{api.Mat{{0, 1, 0}}, api.Mat{{}, {5, 6, 7}, {}}, api.Mat{{5, 6, 7}, {}, {}}},
		{mat.Unit(1 << 32), mat.Unit(1 << 31), mat.Unit(least)},
		{mat.Unit(1 << 32), mat.Unit(1 << 32), api.Mat{}},
		{mat.Unit(greatest), mat.Unit(greatest), mat.Unit(1)},
		{mat.Unit(least), mat.Unit(-1), mat.Unit(least)},
	} {
		is(t, call("Mul", r.a, r.b), mat.Mul(r.a, r.b), r.want)
	}
	eachPair(func(a, b api.Mat) {
		want := placed(func(i, k int) *big.Int {
			sum := new(big.Int)
			for j := range 3 {
				sum.Add(sum, product(a[i][j], b[j][k]))
			}
			return sum
		})
		is(t, call("Mul", a, b), mat.Mul(a, b), want)
	})
}

// P8.4: the determinant of the rows, with its sign.
func TestP4Det(t *testing.T) {
	for _, r := range []struct {
		m    api.Mat
		want int64
	}{
		{api.Mat{}, 0},
		{mat.Unit(1), 1},
		{mat.Unit(2), 8},
		{mat.Unit(-2), -8},
		{api.Mat{{0, 1, 0}, {1, 0, 0}, {0, 0, 1}}, -1},
		{api.Mat{{0, 1, 0}, {0, 0, 1}, {1, 0, 0}}, 1},
		{api.Mat{{1, 2, 3}, {4, 5, 6}, {7, 8, 10}}, -3},
		{api.Mat{{1, 2, 3}, {4, 5, 6}, {7, 8, 9}}, 0},
		{api.Mat{{30, 30, -30}, {30, -30, 30}, {-30, 30, 30}}, -108000},
		{mat.Unit(1 << 21), least},
		{mat.Unit(1 << 22), 0},
		{mat.Unit(greatest), greatest},
		{mat.Unit(least), 0},
	} {
		is(t, call("Det", r.m), mat.Det(r.m), r.want)
	}
	each(func(m api.Mat) {
		is(t, call("Det", m), mat.Det(m), around(determinant(m)))
		is(t, call("Det", m), mat.Det(m), vec.Det(m[0], m[1], m[2]))
	})
}

// P8.5, and the chapter's example: cross products as columns.
func TestP5Adj(t *testing.T) {
	for _, r := range []struct{ m, want api.Mat }{
		{mat.Unit(2), mat.Unit(4)},
		{mat.Unit(1), mat.Unit(1)},
		{api.Mat{}, api.Mat{}},
		{api.Mat{{1, 2, 3}, {4, 5, 6}, {7, 8, 10}}, api.Mat{{2, 4, -3}, {2, -11, 6}, {-3, 6, -3}}},
		{api.Mat{{1, 2, 0}, {}, {0, 0, 3}}, api.Mat{{0, -6, 0}, {0, 3, 0}, {}}},
		{api.Mat{{1, 2, 3}, {2, 4, 6}, {-1, -2, -3}}, api.Mat{}},
		{mat.Unit(1 << 32), api.Mat{}},
		{mat.Unit(least), api.Mat{}},
		{mat.Unit(greatest), mat.Unit(1)},
		{api.Mat{{least, 0, 0}, {0, 1, 0}, {0, 0, -1}}, api.Mat{{-1, 0, 0}, {0, least, 0}, {0, 0, least}}},
	} {
		is(t, call("Adj", r.m), mat.Adj(r.m), r.want)
	}
	each(func(m api.Mat) {
		got := mat.Adj(m)
		is(t, call("Adj", m), got, placed(func(i, k int) *big.Int { return without(m, k, i) }))
		columns := [3]api.Vec{vec.Cross(m[1], m[2]), vec.Cross(m[2], m[0]), vec.Cross(m[0], m[1])}
		for k, column := range columns {
			is(t, call("Adj", m), api.Vec{got[0][k], got[1][k], got[2][k]}, column)
		}
	})
}

// P8.6: what stands at 0, 0, at 1, 1 and at 2, 2.
func TestP6TraceUnit(t *testing.T) {
	for _, r := range []struct {
		m    api.Mat
		want int64
	}{
		{api.Mat{}, 0},
		{api.Mat{{1, 20, 300}, {4000, 5, 600}, {70, 8000, 9}}, 15},
		{api.Mat{{-1, 1, 1}, {1, 2, 1}, {1, 1, -3}}, -2},
		{mat.Unit(greatest), greatest - 2},
		{mat.Unit(least), least},
		{api.Mat{{greatest, 0, 0}, {0, 1, 0}, {}}, least},
		{api.Mat{{0, greatest, greatest}, {greatest, 0, least}, {1, 1, 0}}, 0},
	} {
		is(t, call("Trace", r.m), mat.Trace(r.m), r.want)
	}
	each(func(m api.Mat) {
		sum := new(big.Int)
		for i := range 3 {
			sum.Add(sum, big.NewInt(m[i][i]))
		}
		is(t, call("Trace", m), mat.Trace(m), around(sum))
	})
	for _, k := range numbers() {
		is(t, call("Unit", k), mat.Unit(k), api.Mat{{k, 0, 0}, {0, k, 0}, {0, 0, k}})
	}
}

// P8.7: ErrFlat where Det is 0, also where it only goes round to 0; beside it there is nothing.
func TestP7Solve(t *testing.T) {
	for _, r := range []struct {
		m       api.Mat
		v, want api.Vec
		det     int64
		err     api.Errno
	}{
		{mat.Unit(2), api.Vec{1, 2, 3}, api.Vec{4, 8, 12}, 8, api.OK},
		{mat.Unit(-1), api.Vec{1, 2, 3}, api.Vec{1, 2, 3}, -1, api.OK},
		{mat.Unit(1), api.Vec{}, api.Vec{}, 1, api.OK},
		{api.Mat{{1, 2, 3}, {4, 5, 6}, {7, 8, 10}}, api.Vec{5, 11, 19}, api.Vec{-3, 3, -6}, -3, api.OK},
		{api.Mat{{0, 1, 0}, {1, 0, 0}, {0, 0, 1}}, api.Vec{5, 6, 7}, api.Vec{-6, -5, -7}, -1, api.OK},
		{mat.Unit(1 << 21), api.Vec{1, 0, -1}, api.Vec{1 << 42, 0, -1 << 42}, least, api.OK},
		{mat.Unit(greatest), api.Vec{least, 1, greatest}, api.Vec{least, 1, greatest}, greatest, api.OK},
		{api.Mat{}, api.Vec{1, 2, 3}, api.Vec{}, 0, api.ErrFlat},
		{api.Mat{}, api.Vec{}, api.Vec{}, 0, api.ErrFlat},
		{api.Mat{{1, 2, 3}, {4, 5, 6}, {7, 8, 9}}, api.Vec{1, 1, 1}, api.Vec{}, 0, api.ErrFlat},
		{api.Mat{{1, 2, 3}, {2, 4, 6}, {3, 6, 9}}, api.Vec{1, 2, 3}, api.Vec{}, 0, api.ErrFlat},
		{mat.Unit(1 << 22), api.Vec{1, 2, 3}, api.Vec{}, 0, api.ErrFlat},
		{api.Mat{{1 << 32, 0, 0}, {0, 1 << 32, 0}, {0, 0, 1}}, api.Vec{0, 0, 1}, api.Vec{}, 0, api.ErrFlat},
	} {
		x, det, err := mat.Solve(r.m, r.v)
		is(t, call("Solve", r.m, r.v), x, r.want)
		is(t, call("Det of Solve", r.m, r.v), det, r.det)
		is(t, call("error of Solve", r.m, r.v), err, r.err)
	}
	each(func(m api.Mat) {
		for _, v := range vectors() {
			want, wantDet, wantErr := api.Vec{}, around(determinant(m)), api.OK
			if wantDet == 0 {
				wantErr = api.ErrFlat
			} else {
				want = mat.Times(mat.Adj(m), v)
			}
			x, det, err := mat.Solve(m, v)
			is(t, call("Solve", m, v), x, want)
			is(t, call("Det of Solve", m, v), det, wantDet)
			is(t, call("error of Solve", m, v), err, wantErr)
		}
	})
}

// P8.8: as many factors as are asked for; below none there is none, and there are at most 100.
func TestP8Power(t *testing.T) {
	shear, shrinks := api.Mat{{1, 1, 0}, {0, 1, 0}, {0, 0, -1}}, api.Mat{{0, 1, 0}, {0, 0, 1}, {}}
	for _, r := range []struct {
		m    api.Mat
		n    int
		want api.Mat
	}{
		{mat.Unit(2), 0, mat.Unit(1)},
		{mat.Unit(2), 1, mat.Unit(2)},
		{mat.Unit(2), 62, mat.Unit(1 << 62)},
		{mat.Unit(2), 63, mat.Unit(least)},
		{mat.Unit(2), 64, api.Mat{}},
		{mat.Unit(-1), 99, mat.Unit(-1)},
		{mat.Unit(-1), 100, mat.Unit(1)},
		{mat.Unit(-1), 101, mat.Unit(1)},
		{mat.Unit(-1), math.MaxInt, mat.Unit(1)},
		{mat.Unit(7), -1, mat.Unit(1)},
		{mat.Unit(7), math.MinInt, mat.Unit(1)},
		{api.Mat{}, 0, mat.Unit(1)},
		{api.Mat{}, -5, mat.Unit(1)},
		{api.Mat{}, 1, api.Mat{}},
		{shear, 3, api.Mat{{1, 3, 0}, {0, 1, 0}, {0, 0, -1}}},
		{shear, 99, api.Mat{{1, 99, 0}, {0, 1, 0}, {0, 0, -1}}},
		{shear, 100, api.Mat{{1, 100, 0}, {0, 1, 0}, {0, 0, 1}}},
		{shear, 101, api.Mat{{1, 100, 0}, {0, 1, 0}, {0, 0, 1}}},
		{shear, 1 << 40, api.Mat{{1, 100, 0}, {0, 1, 0}, {0, 0, 1}}},
		{shrinks, 2, api.Mat{{0, 0, 1}, {}, {}}},
		{shrinks, 3, api.Mat{}},
	} {
		is(t, call("Power", r.m, r.n), mat.Power(r.m, r.n), r.want)
	}
	for _, m := range append(some(small(), 77), edges()...) {
		want := mat.Unit(1)
		for n := range 101 {
			is(t, call("Power", m, n), mat.Power(m, n), want)
			want = mat.Mul(m, want)
		}
		is(t, call("Power", m, 101), mat.Power(m, 101), mat.Power(m, 100))
		is(t, call("Power", m, -1), mat.Power(m, -1), mat.Unit(1))
	}
}

// P8.9: place by place, the multiple only of the second.
func TestP9Sum(t *testing.T) {
	a, b := api.Mat{{1, 2, 3}, {4, 5, 6}, {7, 8, 9}}, api.Mat{{10, 0, -10}, {0, 1, 0}, {2, 0, 3}}
	for _, r := range []struct {
		a    api.Mat
		k    int64
		b    api.Mat
		want api.Mat
	}{
		{a, 1, b, api.Mat{{11, 2, -7}, {4, 6, 6}, {9, 8, 12}}},
		{a, -2, b, api.Mat{{-19, 2, 23}, {4, 3, 6}, {3, 8, 3}}},
		{a, 0, b, a},
		{a, greatest, api.Mat{}, a},
		{api.Mat{}, 3, b, api.Mat{{30, 0, -30}, {0, 3, 0}, {6, 0, 9}}},
		{a, -1, a, api.Mat{}},
		{mat.Unit(greatest), 1, mat.Unit(1), mat.Unit(least)},
		{mat.Unit(least), -1, mat.Unit(1), mat.Unit(greatest)},
		{mat.Unit(5), 1 << 32, mat.Unit(1 << 32), mat.Unit(5)},
		{mat.Unit(0), least, mat.Unit(-1), mat.Unit(least)},
	} {
		is(t, call("Sum", r.a, r.k, r.b), mat.Sum(r.a, r.k, r.b), r.want)
	}
	eachPair(func(a, b api.Mat) {
		for _, k := range []int64{0, 1, -1, 7, a[0][1], b[2][0], least} {
			want := placed(func(i, j int) *big.Int { return new(big.Int).Add(big.NewInt(a[i][j]), product(k, b[i][j])) })
			is(t, call("Sum", a, k, b), mat.Sum(a, k, b), want)
		}
	})
}

// P8.10: the polynomial, its factors beginning with that of 1.
func TestP10Char(t *testing.T) {
	for _, r := range []struct {
		m    api.Mat
		want [3]int64
	}{
		{api.Mat{}, [3]int64{}},
		{mat.Unit(1), [3]int64{-1, 3, -3}},
		{mat.Unit(2), [3]int64{-8, 12, -6}},
		{mat.Unit(-2), [3]int64{8, 12, 6}},
		{api.Mat{{1, 0, 0}, {0, 2, 0}, {0, 0, 5}}, [3]int64{-10, 17, -8}},
		{api.Mat{{0, 1, 0}, {0, 0, 1}, {7, -5, 3}}, [3]int64{-7, 5, -3}},
		{mat.Unit(1 << 21), [3]int64{least, 3 << 42, -3 << 21}},
		{mat.Unit(least), [3]int64{0, 0, least}},
	} {
		is(t, call("Char", r.m), mat.Char(r.m), r.want)
	}
	each(func(m api.Mat) {
		minors, trace := new(big.Int), new(big.Int)
		for i := range 3 {
			minors.Add(minors, without(m, i, i))
			trace.Add(trace, big.NewInt(m[i][i]))
		}
		want := [3]int64{around(determinant(m).Neg(determinant(m))), around(minors), around(trace.Neg(trace))}
		c := mat.Char(m)
		is(t, call("Char", m), c, want)
		for _, x := range []int64{0, 1, -1, 2, 1 << 20} {
			is(t, call("Char at", m, x), c[0]+x*(c[1]+x*(c[2]+x)), mat.Det(mat.Sum(mat.Unit(x), -1, m)))
		}
	})
}

// P8.11: the first of the three questions that is answered tells, also where the numbers go round.
func TestP11Rank(t *testing.T) {
	for _, r := range []struct {
		m    api.Mat
		want int
	}{
		{api.Mat{}, 0},
		{mat.Unit(1), 3},
		{mat.Unit(-1), 3},
		{api.Mat{{1, 2, 3}, {4, 5, 6}, {7, 8, 10}}, 3},
		{api.Mat{{1, 2, 3}, {4, 5, 6}, {7, 8, 9}}, 2},
		{api.Mat{{1, 2, 3}, {4, 5, 6}, {}}, 2},
		{api.Mat{{1, 2, 3}, {}, {4, 5, 6}}, 2},
		{api.Mat{{}, {1, 2, 3}, {4, 5, 6}}, 2},
		{api.Mat{{1, 2, 3}, {2, 4, 6}, {0, 0, 1}}, 2},
		{api.Mat{{1, 2, 3}, {2, 4, 6}, {-3, -6, -9}}, 1},
		{api.Mat{{1, 0, 0}, {}, {}}, 1},
		{api.Mat{{}, {0, 0, -1}, {}}, 1},
		{api.Mat{{}, {}, {0, least, 0}}, 1},
		{mat.Unit(1 << 21), 3},
		{mat.Unit(1 << 22), 2},
		{mat.Unit(1 << 32), 1},
		{mat.Unit(least), 1},
		{mat.Unit(greatest), 3},
	} {
		is(t, call("Rank", r.m), mat.Rank(r.m), r.want)
	}
	each(func(m api.Mat) {
		is(t, call("Rank", m), mat.Rank(m), asTold(m))
	})
	for _, m := range small() {
		is(t, call("Rank", m), mat.Rank(m), eliminated(m))
	}
}

// asTold is the rank of m by the promise's words.
func asTold(m api.Mat) int {
	if around(determinant(m)) != 0 {
		return 3
	}
	for i := range 3 {
		for k := range 3 {
			if around(without(m, i, k)) != 0 {
				return 2
			}
		}
	}
	if m != (api.Mat{}) {
		return 1
	}
	return 0
}

// eliminated is how many rows of m are left when multiples of rows are taken from rows: of numbers that are small.
func eliminated(m api.Mat) int {
	rank := 0
	for k := range 3 {
		at := rank
		for at < 3 && m[at][k] == 0 {
			at++
		}
		if at == 3 {
			continue
		}
		m[rank], m[at] = m[at], m[rank]
		for i := rank + 1; i < 3; i++ {
			m[i] = vec.Sub(vec.Scale(m[i], m[rank][k]), vec.Scale(m[rank], m[i][k]))
		}
		rank++
	}
	return rank
}

// P8.12: which direction is told, in the order in which the promise names them; nothing beside false.
func TestP12Kernel(t *testing.T) {
	for _, r := range []struct {
		m    api.Mat
		want api.Vec
		ok   bool
	}{
		{mat.Unit(1), api.Vec{}, false},
		{mat.Unit(-3), api.Vec{}, false},
		{mat.Unit(1 << 21), api.Vec{}, false},
		{api.Mat{{1, 2, 3}, {4, 5, 6}, {7, 8, 10}}, api.Vec{}, false},
		{api.Mat{{1, 2, 3}, {4, 5, 6}, {7, 8, 9}}, api.Vec{-3, 6, -3}, true},
		{api.Mat{{4, 5, 6}, {1, 2, 3}, {7, 8, 9}}, api.Vec{3, -6, 3}, true},
		{api.Mat{{1, 2, 3}, {4, 5, 6}, {}}, api.Vec{-3, 6, -3}, true},
		{api.Mat{{1, 2, 3}, {2, 4, 6}, {4, 5, 6}}, api.Vec{-3, 6, -3}, true},
		{api.Mat{{4, 5, 6}, {}, {1, 2, 3}}, api.Vec{3, -6, 3}, true},
		{api.Mat{{}, {1, 2, 3}, {4, 5, 6}}, api.Vec{-3, 6, -3}, true},
		{api.Mat{{1, 2, 3}, {2, 4, 6}, {3, 6, 9}}, api.Vec{0, 3, -2}, true},
		{api.Mat{{-1, 0, 2}, {2, 0, -4}, {}}, api.Vec{0, 2, 0}, true},
		{api.Mat{{0, 5, 0}, {0, 1, 0}, {}}, api.Vec{0, 0, -5}, true},
		{api.Mat{{0, 0, 7}, {}, {0, 0, 1}}, api.Vec{0, 7, 0}, true},
		{api.Mat{{5, 0, 0}, {1, 0, 0}, {2, 0, 0}}, api.Vec{0, 0, 5}, true},
		{api.Mat{{}, {5, 0, 0}, {1, 0, 0}}, api.Vec{0, 0, 5}, true},
		{api.Mat{{}, {}, {-5, 0, 0}}, api.Vec{0, 0, -5}, true},
		{api.Mat{{}, {}, {1, 2, 3}}, api.Vec{0, 3, -2}, true},
		{api.Mat{}, api.Vec{1, 0, 0}, true},
		{mat.Unit(1 << 22), api.Vec{0, 0, 1 << 44}, true},
		{mat.Unit(1 << 32), api.Vec{0, 0, 1 << 32}, true},
		{mat.Unit(least), api.Vec{0, 0, least}, true},
		{api.Mat{{0, least, least}, {}, {}}, api.Vec{0, least, least}, true},
	} {
		got, ok := mat.Kernel(r.m)
		is(t, call("Kernel", r.m), got, r.want)
		is(t, call("whether Kernel", r.m), ok, r.ok)
	}
	each(func(m api.Mat) {
		got, ok := mat.Kernel(m)
		is(t, call("whether Kernel", m), ok, around(determinant(m)) == 0)
		want := api.Vec{}
		if ok {
			want = upright(m)
		}
		is(t, call("Kernel", m), got, want)
	})
}

// upright is the first that is not 0 of the directions that the promise names.
func upright(m api.Mat) api.Vec {
	l := []api.Vec{vec.Cross(m[0], m[1]), vec.Cross(m[0], m[2]), vec.Cross(m[1], m[2])}
	for _, row := range m {
		l = append(l, api.Vec{0, row[2], -row[1]}, api.Vec{-row[2], 0, row[0]}, api.Vec{row[1], -row[0], 0})
	}
	for _, v := range l {
		if v != (api.Vec{}) {
			return v
		}
	}
	return api.Vec{1, 0, 0}
}

// P8.13: a matrix and its Adj, either way round.
func TestP13MulOfAdj(t *testing.T) {
	each(func(m api.Mat) {
		want := mat.Unit(mat.Det(m))
		is(t, call("Mul of it and Adj", m), mat.Mul(m, mat.Adj(m)), want)
		is(t, call("Mul of Adj and it", m), mat.Mul(mat.Adj(m), m), want)
	})
}

// P8.14: products in any grouping, and their Det and Turn.
func TestP14Products(t *testing.T) {
	eachTriple(func(a, b, c api.Mat) {
		is(t, call("Mul in groups", a, b, c), mat.Mul(mat.Mul(a, b), c), mat.Mul(a, mat.Mul(b, c)))
	})
	eachPair(func(a, b api.Mat) {
		ab := mat.Mul(a, b)
		is(t, call("Det of Mul", a, b), mat.Det(ab), mat.Det(a)*mat.Det(b))
		is(t, call("Turn of Mul", a, b), mat.Turn(ab), mat.Mul(mat.Turn(b), mat.Turn(a)))
		for _, v := range vectors() {
			is(t, call("Times of Mul", a, b, v), mat.Times(ab, v), mat.Times(a, mat.Times(b, v)))
		}
	})
}

// P8.15: what is solved, multiplied again.
func TestP15TimesOfSolve(t *testing.T) {
	solved := 0
	each(func(m api.Mat) {
		for _, v := range vectors() {
			x, det, err := mat.Solve(m, v)
			if err != api.OK {
				continue
			}
			solved++
			is(t, call("Times of Solve", m, v), mat.Times(m, x), vec.Scale(v, det))
		}
	})
	if solved == 0 {
		t.Fatal("nothing was solved")
	}
}

// P8.16: in its own polynomial a matrix is 0.
func TestP16CharOfItself(t *testing.T) {
	each(func(m api.Mat) {
		c := mat.Char(m)
		sum := mat.Power(m, 3)
		for n, k := range c {
			sum = mat.Sum(sum, k, mat.Power(m, n))
		}
		is(t, call("Char of itself", m), sum, api.Mat{})
	})
}

// P8.17: what Kernel tells is a direction, and upright on each row.
func TestP17KernelIsUpright(t *testing.T) {
	l := small()
	for _, m := range small() {
		stretched := api.Mat{vec.Scale(m[0], api.MaxEntry), vec.Scale(m[1], -7), vec.Add(m[2], vec.Scale(m[1], 11))}
		l = append(l, stretched, mat.Mul(stretched, api.Mat{{1, 2, 3}, {4, 5, 6}, {7, 8, 9}}))
	}
	for _, m := range l {
		v, ok := mat.Kernel(m)
		if !ok {
			is(t, call("Rank where there is no Kernel", m), mat.Rank(m), 3)
			continue
		}
		is(t, call("whether Kernel is 0", m), v == api.Vec{}, false)
		for _, row := range m {
			is(t, call("Dot of a row and Kernel", m), vec.Dot(row, v), 0)
		}
	}
}
