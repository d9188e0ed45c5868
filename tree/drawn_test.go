package tree_test

import (
	"math/rand"
	"testing"

	"jobber/api"
	"jobber/tree"
)

// P13.5, and P13.2 to P13.4 on drawn trees.

// drawer is from where the traders of a tree are drawn.
type drawer struct{ firms, desks, empty int } // of ten places, so many are empty

func drawers() []drawer {
	return []drawer{{8, 16, 3}, {2, 3, 1}, {3, 2, 8}, {1, 16, 2}, {8, 1, 0}, {8, 2, 5}}
}

func (d drawer) draw(r *rand.Rand) list {
	var l list
	for n := range l {
		if r.Intn(10) < d.empty {
			continue
		}
		l[n] = api.Trader{Firm: r.Intn(d.firms), Desk: r.Intn(d.desks), Roles: 1 + r.Intn(15), Insts: r.Intn(256), Off: r.Intn(4) == 0}
		if r.Intn(3) > 0 {
			r.Read(l[n].Key[:])
		}
	}
	return l
}

// eachDrawn calls f with many drawn trees.
func eachDrawn(t *testing.T, seed int64, f func(r *rand.Rand, x *tree.Tree, l list)) {
	t.Helper()
	r := rand.New(rand.NewSource(seed))
	for range 100 {
		for _, d := range drawers() {
			l := d.draw(r)
			f(r, made(t, l), l)
		}
	}
}

func isIn(set uint64, n int) bool { return set&(1<<n) != 0 }

func TestTheSetsOfOneAnother(t *testing.T) {
	others := 0
	eachDrawn(t, 131, func(r *rand.Rand, x *tree.Tree, l list) {
		for n := range l {
			own, desk, firm := x.Set(n, api.SOwn), x.Set(n, api.SDesk), x.Set(n, api.SFirm)
			if !x.There(n) {
				continue
			}
			if !isIn(own, n) || own&^desk != 0 || desk&^firm != 0 {
				t.Errorf("trader %d: own %b, desk %b, firm %b", n, own, desk, firm)
			}
			for i := range 64 {
				if isIn(desk, i) && (x.Set(i, api.SDesk) != desk || x.Set(i, api.SFirm) != firm) {
					t.Errorf("traders %d and %d are of one desk, but their sets differ", n, i)
				}
				if isIn(firm, i) && x.Set(i, api.SFirm) != firm {
					t.Errorf("traders %d and %d are of one firm, but their sets differ", n, i)
				}
				if isIn(desk, i) && x.Trader(i).Firm != x.Trader(n).Firm {
					t.Errorf("trader %d is of the desk of %d, but not of its firm", i, n)
				}
				if i != n && isIn(desk, i) {
					others++
				}
			}
		}
	})
	if others < 1000 {
		t.Error(others)
	}
}

func TestDrawnTreesAndOffs(t *testing.T) {
	eachDrawn(t, 132, func(r *rand.Rand, x *tree.Tree, l list) {
		holdSets(t, x, l)
		for range 40 {
			n, off := r.Intn(36)-2, r.Intn(2) == 0
			there := n >= 0 && n < 32 && l[n].Roles != 0
			holdOff(t, x, n, off, there)
			if there {
				l[n].Off = off
			}
		}
		holdTraders(t, x, l)
		holdSets(t, x, l)
	})
}

func TestTwoTreesDoNotTouchEachOther(t *testing.T) {
	eachDrawn(t, 133, func(r *rand.Rand, x *tree.Tree, l list) {
		same := made(t, l)
		m := drawers()[r.Intn(len(drawers()))].draw(r)
		other := made(t, m)
		for n := range l {
			x.Off(n, !l[n].Off)
		}
		holdTraders(t, same, l)
		holdTraders(t, other, m)
		holdSets(t, x, l)
		holdSets(t, other, m)
		for n := range l {
			other.Off(n, !m[n].Off)
			l[n].Off = !l[n].Off && l[n].Roles != 0
		}
		holdTraders(t, x, l)
	})
}

// spoiled is a trader with one field drawn anew, mostly for one that it can't
// have.
func spoiled(r *rand.Rand, x api.Trader) api.Trader {
	switch n := r.Intn(7); n {
	case 0:
		x.Roles = 0
	case 1:
		x.Off = true
	case 2:
		x.Key[r.Intn(32)] = byte(r.Intn(256))
	default:
		f := fields()[n-3]
		x = f.with(x, r.Intn(3*f.most)-f.most)
	}
	return x
}

// mayStand is P13.2, word by word.
func mayStand(x api.Trader) bool {
	valid := x.Firm >= 0 && x.Firm < 8 && x.Desk >= 0 && x.Desk < 16 && x.Roles >= 0 && x.Roles < 16 && x.Insts >= 0 && x.Insts < 256
	return x == api.Trader{} || valid && x.Roles != 0
}

func TestDrawnListsWithSpoiledTraders(t *testing.T) {
	refused, taken := 0, 0
	eachDrawn(t, 134, func(r *rand.Rand, _ *tree.Tree, l list) {
		for range r.Intn(4) {
			n := r.Intn(32)
			l[n] = spoiled(r, l[n])
		}
		for n, x := range l {
			if !mayStand(x) {
				refused++
				holdRefused(t, l, n)
				return
			}
		}
		taken++
		holdTraders(t, made(t, l), l)
	})
	if refused < 100 || taken < 100 {
		t.Error(refused, taken)
	}
}
