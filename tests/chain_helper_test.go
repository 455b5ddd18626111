package tests

import (
	"math/big"
	"slices"
	"testing"

	"loop.example/g00780/impl"
)

// The models say chapter 6 by walking down and coming up again step by step, and share nothing with the program.

func modelGoodPool(a impl.Pool) bool {
	sizes, highs := []*big.Int{new(big.Int)}, []int{0}
	for i, n := range a.Nodes {
		if i >= impl.MaxNodes || n.Left < 0 || n.Left > i || n.Right < 0 || n.Right > i || !allWithin(impl.MaxXY, n.At) {
			return false
		}
		size := big.NewInt(1)
		size.Add(size, sizes[n.Left]).Add(size, sizes[n.Right])
		low, high := min(highs[n.Left], highs[n.Right]), max(highs[n.Left], highs[n.Right])
		if big.NewInt(int64(n.Size)).Cmp(size) != 0 || n.High != high+1 || high-low > 1 {
			return false
		}
		sizes, highs = append(sizes, size), append(highs, high+1)
	}
	return true
}

func modelGoodRoot(a impl.Pool, root int) bool {
	return modelGoodPool(a) && root >= 0 && root <= len(a.Nodes)
}

// nodeAt has the empty node for 0.
func nodeAt(a impl.Pool, k int) impl.Node {
	if k == 0 {
		return impl.Node{}
	}
	return a.Nodes[k-1]
}

// wholeList goes through a list with a row of nodes that wait.
func wholeList(a impl.Pool, root int) []impl.Point {
	var l []impl.Point
	var wait []impl.Node
	for root > 0 || len(wait) > 0 {
		for ; root > 0; root = nodeAt(a, root).Left {
			wait = append(wait, nodeAt(a, root))
		}
		n := wait[len(wait)-1]
		wait = wait[:len(wait)-1]
		l = append(l, n.At)
		root = n.Right
	}
	return l
}

func modelList(a impl.Pool, root int) ([]impl.Point, bool) {
	if !modelGoodRoot(a, root) || nodeAt(a, root).Size > impl.MaxPoints {
		return nil, false
	}
	return wholeList(a, root), true
}

// bring puts a node behind all and tells its number.
func bring(a *impl.Pool, left int, p impl.Point, right int) int {
	l, r := nodeAt(*a, left), nodeAt(*a, right)
	a.Nodes = append(slices.Clone(a.Nodes), impl.Node{Left: left, Right: right, Size: l.Size + 1 + r.Size, High: 1 + max(l.High, r.High), At: p})
	return len(a.Nodes)
}

// level is the balanced of the document.
func level(a *impl.Pool, left int, p impl.Point, right int) int {
	l, r := nodeAt(*a, left), nodeAt(*a, right)
	down := func(k int) int { return nodeAt(*a, k).High }
	switch l.High - r.High {
	case 2:
		if m := nodeAt(*a, l.Right); down(l.Left) < m.High {
			first := bring(a, l.Left, l.At, m.Left)
			return bring(a, first, m.At, bring(a, m.Right, p, right))
		}
		inner := bring(a, l.Right, p, right)
		return bring(a, l.Left, l.At, inner)
	case -2:
		if m := nodeAt(*a, r.Left); down(r.Right) < m.High {
			first := bring(a, left, p, m.Left)
			second := bring(a, m.Right, r.At, r.Right)
			return bring(a, first, m.At, second)
		}
		inner := bring(a, left, p, r.Left)
		return bring(a, inner, r.At, r.Right)
	case -1, 0, 1:
		return bring(a, left, p, right)
	}
	panic("the Highs differ by more than 2")
}

// layBetween is the laid down of the document: down the side of the higher one, and up again.
func layBetween(a *impl.Pool, left int, p impl.Point, right int) int {
	var passed []impl.Node
	fromLeft := nodeAt(*a, left).High > nodeAt(*a, right).High
	for nodeAt(*a, left).High-nodeAt(*a, right).High > 1 {
		passed = append(passed, nodeAt(*a, left))
		left = nodeAt(*a, left).Right
	}
	for nodeAt(*a, right).High-nodeAt(*a, left).High > 1 {
		passed = append(passed, nodeAt(*a, right))
		right = nodeAt(*a, right).Left
	}
	root := bring(a, left, p, right)
	slices.Reverse(passed)
	for _, n := range passed {
		if fromLeft {
			root = level(a, n.Left, n.At, root)
		} else {
			root = level(a, root, n.At, n.Right)
		}
	}
	return root
}

// splitAt walks down to where the list is cut, and lays both parts on the way up.
func splitAt(a *impl.Pool, root, many int) (int, int) {
	type step struct {
		n      impl.Node
		toLeft bool
	}
	var steps []step
	for root > 0 {
		n := nodeAt(*a, root)
		ahead := nodeAt(*a, n.Left).Size
		steps = append(steps, step{n, many <= ahead})
		root = n.Left
		if many > ahead {
			root, many = n.Right, many-ahead-1
		}
	}
	front, rest := 0, 0
	slices.Reverse(steps)
	for _, s := range steps {
		if s.toLeft {
			rest = layBetween(a, rest, s.n.At, s.n.Right)
		} else {
			front = layBetween(a, s.n.Left, s.n.At, front)
		}
	}
	return front, rest
}

func modelSplit(a impl.Pool, root, many int) (impl.Pool, int, int, bool) {
	if !modelGoodRoot(a, root) || many < 0 || many > nodeAt(a, root).Size {
		return impl.Pool{}, 0, 0, false
	}
	front, rest := splitAt(&a, root, many)
	if len(a.Nodes) > impl.MaxNodes {
		return impl.Pool{}, 0, 0, false
	}
	return a, front, rest, true
}

func modelJoin6(a impl.Pool, x, y int) (impl.Pool, int, bool) {
	if !modelGoodRoot(a, x) || !modelGoodRoot(a, y) {
		return impl.Pool{}, 0, false
	}
	if x == 0 || y == 0 {
		return a, x + y, true
	}
	both := new(big.Int).Add(big.NewInt(int64(nodeAt(a, x).Size)), big.NewInt(int64(nodeAt(a, y).Size)))
	if !both.IsInt64() {
		return impl.Pool{}, 0, false
	}
	first, rest := splitAt(&a, y, 1)
	root := layBetween(&a, x, nodeAt(a, first).At, rest)
	if len(a.Nodes) > impl.MaxNodes {
		return impl.Pool{}, 0, false
	}
	return a, root, true
}

// modelBuild has the number of each node by how many points it is over: all of a part are numbered ahead of the part behind it, and the middle one last.
func modelBuild(a impl.Pool, l []impl.Point) (impl.Pool, int, bool) {
	if !modelGoodPool(a) || len(l) > impl.MaxPoints || !allWithin(impl.MaxXY, l...) || len(a.Nodes)+len(l) > impl.MaxNodes {
		return impl.Pool{}, 0, false
	}
	nodes := append(slices.Clone(a.Nodes), make([]impl.Node, len(l))...)
	type part struct{ from, to, base int }
	parts := []part{{0, len(l), len(a.Nodes)}}
	for len(parts) > 0 {
		p := parts[0]
		parts = parts[1:]
		many := p.to - p.from
		if many == 0 {
			continue
		}
		middle := p.from + many/2
		n := impl.Node{Size: many, High: bitsOf(many), At: l[middle]}
		if middle > p.from {
			n.Left = p.base + middle - p.from
		}
		if middle+1 < p.to {
			n.Right = p.base + many - 1
		}
		nodes[p.base+many-1] = n
		parts = append(parts, part{p.from, middle, p.base}, part{middle + 1, p.to, p.base + middle - p.from})
	}
	if len(l) == 0 {
		return impl.Pool{Nodes: nodes}, 0, true
	}
	return impl.Pool{Nodes: nodes}, len(nodes), true
}

// bitsOf is how high a tree of n nodes is that is halved again and again.
func bitsOf(n int) int {
	high := 0
	for ; n > 0; n /= 2 {
		high++
	}
	return high
}

func modelIndex(a impl.Pool, root, k int) (impl.Point, bool) {
	if !modelGoodRoot(a, root) || k < 0 || k >= nodeAt(a, root).Size {
		return impl.Point{}, false
	}
	return wholeList(a, root)[k], true
}

func modelFirst(a impl.Pool, root int, d impl.Point, most int) (int, bool) {
	if !modelGoodRoot(a, root) || !allWithin(impl.MaxXY, d) {
		return 0, false
	}
	l := wholeList(a, root)
	k := slices.IndexFunc(l, func(p impl.Point) bool { return dot(d, p) > most })
	if k < 0 || !slices.IsSortedFunc(l, func(p, q impl.Point) int { return dot(d, p) - dot(d, q) }) {
		return 0, false
	}
	return k, true
}

// behindNode is what lies behind the length of a laid pool: a good node, so that a function that read it would not stumble over it.
var behindNode = impl.Node{Size: 1, High: 1, At: behind}

// laidPool is a pool with room behind its length, and what its memory held at first.
type laidPool struct {
	pool  impl.Pool
	whole []impl.Node
	first []impl.Node
}

func layPool(a impl.Pool, room int) laidPool {
	whole := slices.Clone(a.Nodes)
	for range room {
		whole = append(whole, behindNode)
	}
	whole = slices.Clip(whole)
	return laidPool{pool: impl.Pool{Nodes: whole[:len(a.Nodes)]}, whole: whole, first: slices.Clone(whole)}
}

func (l laidPool) untouched() bool {
	return slices.Equal(l.whole, l.first)
}

// checkPool holds an answer against the wanted one, and asks that it is memory of its own.
func checkPool(t *testing.T, name string, answer impl.Pool, ok bool, want impl.Pool, is bool, argument laidPool) {
	t.Helper()
	if ok != is || !slices.Equal(answer.Nodes, want.Nodes) {
		t.Fatalf("%s = %v, %v; want %v, %v; of %v", name, answer, ok, want, is, argument.first)
	}
	if !argument.untouched() {
		t.Fatalf("%s has written into %v", name, argument.first)
	}
	whole := answer.Nodes[:cap(answer.Nodes)]
	for i := range whole {
		if i >= len(answer.Nodes) && whole[i] != (impl.Node{}) {
			t.Fatalf("%s hands out %v behind the nodes", name, whole[i])
		}
		whole[i] = impl.Node{Left: -9, Right: -9, Size: -9, High: -9, At: impl.Point{X: -1234567, Y: 7654321}}
	}
	if !argument.untouched() {
		t.Fatalf("%s shares memory with %v", name, argument.first)
	}
}

// asking is what may be asked of a pool at once.
type asking struct {
	l       []impl.Point
	x, y, k int
	d       impl.Point
	most    int
}

// checkChains asks all of chapter 6, with lists that have that much room behind their length.
func checkChains(t *testing.T, a impl.Pool, q asking, room int) {
	t.Helper()
	checkReads(t, a, q, room)
	pool, points := layPool(a, room), lay(q.l, room)
	b, root, ok := impl.BuildChain(pool.pool, points.list)
	want, wantRoot, is := modelBuild(a, q.l)
	if root != wantRoot {
		t.Fatal("the root of BuildChain", a, q, root)
	}
	checkPool(t, "BuildChain", b, ok, want, is, pool)
	checkOwn(t, "BuildChain", nil, points)
	b, root, ok = impl.JoinChains(pool.pool, q.x, q.y)
	want, wantRoot, is = modelJoin6(a, q.x, q.y)
	if root != wantRoot {
		t.Fatal("the root of JoinChains", a, q, root)
	}
	checkPool(t, "JoinChains", b, ok, want, is, pool)
	b, front, rest, ok := impl.SplitChain(pool.pool, q.x, q.k)
	want, wantFront, wantRest, is := modelSplit(a, q.x, q.k)
	if front != wantFront || rest != wantRest {
		t.Fatal("the roots of SplitChain", a, q, front, rest)
	}
	checkPool(t, "SplitChain", b, ok, want, is, pool)
}

// checkReads asks the functions of chapter 6 that make no pool.
func checkReads(t *testing.T, a impl.Pool, q asking, room int) {
	t.Helper()
	pool := layPool(a, room)
	if impl.GoodPool(pool.pool) != modelGoodPool(a) {
		t.Fatal("GoodPool", a)
	}
	if impl.GoodRoot(pool.pool, q.x) != modelGoodRoot(a, q.x) {
		t.Fatal("GoodRoot", a, q.x)
	}
	l, ok := impl.ListOf(pool.pool, q.x)
	want, is := modelList(a, q.x)
	checkList(t, "ListOf", l, ok, want, is)
	p, ok := impl.IndexIn(pool.pool, q.x, q.k)
	if at, is := modelIndex(a, q.x, q.k); p != at || ok != is {
		t.Fatal("IndexIn", a, q, p, ok)
	}
	k, ok := impl.FirstWhere(pool.pool, q.x, q.d, q.most)
	if first, is := modelFirst(a, q.x, q.d, q.most); k != first || ok != is {
		t.Fatal("FirstWhere", a, q, k, ok)
	}
	if !pool.untouched() {
		t.Fatal("one of GoodPool to FirstWhere has written into", a)
	}
}

// checkOldRoots asks that the nodes that were there are as they were and the lists of the old roots with them, and that the new pool is good.
func checkOldRoots(t *testing.T, old, now impl.Pool) {
	t.Helper()
	if len(now.Nodes) < len(old.Nodes) || !slices.Equal(now.Nodes[:len(old.Nodes)], old.Nodes) {
		t.Fatal("the nodes that were there are not as they were", old, now)
	}
	if !impl.GoodPool(now) || !modelGoodPool(now) {
		t.Fatal("not good", now)
	}
	for root := range len(old.Nodes) + 1 {
		l, ok := impl.ListOf(now, root)
		if want, is := modelList(old, root); ok != is || !slices.Equal(l, want) {
			t.Fatal("the list of an old root", old, now, root, l, ok)
		}
	}
}

// checkTold asks that the list of a root is as said, all of it and point by point.
func checkTold(t *testing.T, a impl.Pool, root int, want []impl.Point) {
	t.Helper()
	if got := wholeList(a, root); !slices.Equal(got, want) || nodeAt(a, root).Size != len(want) {
		t.Fatal("the list of a root", a, root, got, want)
	}
	l, ok := impl.ListOf(a, root)
	if few := len(want) <= impl.MaxPoints; ok != few || ok && !slices.Equal(l, want) || !ok && len(l) > 0 {
		t.Fatal("ListOf", a, root, l, ok, want)
	}
	for k, p := range want {
		if at, ok := impl.IndexIn(a, root, k); at != p || !ok {
			t.Fatal("IndexIn", a, root, k, at, ok)
		}
	}
	if at, ok := impl.IndexIn(a, root, len(want)); at != (impl.Point{}) || ok {
		t.Fatal("IndexIn behind the last one", a, root, at, ok)
	}
}

// checkSplit holds promise 6 for a root and a many that are as said.
func checkSplit(t *testing.T, a impl.Pool, root, many int) {
	t.Helper()
	b, front, rest, ok := impl.SplitChain(a, root, many)
	want, wantFront, wantRest, is := modelSplit(a, root, many)
	if ok != is || front != wantFront || rest != wantRest || !slices.Equal(b.Nodes, want.Nodes) {
		t.Fatal("SplitChain", a, root, many, b, front, rest, ok)
	}
	if !ok {
		return
	}
	l := wholeList(a, root)
	checkTold(t, b, front, l[:many])
	checkTold(t, b, rest, l[many:])
	checkOldRoots(t, a, b)
}

// checkJoin holds promise 6 for two roots.
func checkJoin(t *testing.T, a impl.Pool, x, y int) {
	t.Helper()
	b, root, ok := impl.JoinChains(a, x, y)
	want, wantRoot, is := modelJoin6(a, x, y)
	if ok != is || root != wantRoot || !slices.Equal(b.Nodes, want.Nodes) {
		t.Fatal("JoinChains", a, x, y, b, root, ok)
	}
	if !ok {
		return
	}
	checkTold(t, b, root, slices.Concat(wholeList(a, x), wholeList(a, y)))
	checkOldRoots(t, a, b)
}

// shape tells for a part of so many levels how many levels its left and its right have.
type shape func(high int) (int, int)

func leanLeft(high int) (int, int)  { return high - 1, high - 2 }
func leanRight(high int) (int, int) { return high - 2, high - 1 }
func fullShape(high int) (int, int) { return high - 1, high - 1 }

func someShape(n *numbers) shape {
	return func(high int) (int, int) {
		return []shape{leanLeft, leanRight, fullShape}[n.word()%3](high)
	}
}

// grow puts a tree of that shape behind a pool, its points in a row from the next one on, and tells its root.
func grow(a *impl.Pool, s shape, high int, next *int) int {
	if high <= 0 {
		return 0
	}
	l, r := s(high)
	left := grow(a, s, l, next)
	p := impl.Point{X: *next, Y: -*next}
	*next++
	right := grow(a, s, r, next)
	return bring(a, left, p, right)
}

// leaves has a pool of so many nodes with one point each.
func leaves(many int) impl.Pool {
	var a impl.Pool
	for k := range many {
		a.Nodes = append(a.Nodes, impl.Node{Size: 1, High: 1, At: impl.Point{X: k, Y: 1}})
	}
	return a
}

// doubled has a pool in which each node has the one ahead of it on both sides: the list of node k has 2 to the k, less 1, points.
func doubled(many int, at func(k int) impl.Point) impl.Pool {
	var a impl.Pool
	for k := range many {
		bring(&a, k, at(k+1), k)
	}
	return a
}
