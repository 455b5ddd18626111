package tests

import (
	"slices"
	"testing"

	"loop.example/g00780/impl"
)

// The models say chapter 7 with each pair of points and each node by itself, and share nothing with the program.

func modelChain(l []impl.Point) bool {
	if !modelGood(l) || len(l) == 0 {
		return false
	}
	for k := 2; k < len(l); k++ {
		if cross(l[k-2], l[k-1], l[k]) <= 0 {
			return false
		}
	}
	return true
}

func modelChains(a, b []impl.Point) bool {
	if !modelChain(a) || !modelChain(b) {
		return false
	}
	return !slices.ContainsFunc(a, func(p impl.Point) bool {
		return slices.ContainsFunc(b, func(q impl.Point) bool { return before(p, q) >= 0 })
	})
}

func modelIsBridge(a, b []impl.Point, i, j int) (bool, bool) {
	if !modelChains(a, b) || i < 0 || i >= len(a) || j < 0 || j >= len(b) {
		return false, false
	}
	side := func(p impl.Point) int { return cross(a[i], b[j], p) }
	if slices.ContainsFunc(slices.Concat(a, b), func(p impl.Point) bool { return side(p) < 0 }) {
		return false, true
	}
	first := slices.IndexFunc(a, func(p impl.Point) bool { return side(p) == 0 })
	last := len(b) - 1 - slices.IndexFunc(reversed(b), func(p impl.Point) bool { return side(p) == 0 })
	return i == first && j == last, true
}

// modelBridges has all pairs that are bridges: one, if promise 7 is true.
func modelBridges(a, b []impl.Point) [][]int {
	var pairs [][]int
	for i := range a {
		for j := range b {
			if is, _ := modelIsBridge(a, b, i, j); is {
				pairs = append(pairs, []int{i, j})
			}
		}
	}
	return pairs
}

func modelBridge(a, b []impl.Point) (int, int, bool) {
	if !modelChains(a, b) {
		return 0, 0, false
	}
	pair := modelBridges(a, b)[0]
	return pair[0], pair[1], true
}

// modelMerge finds what is lowest from the points alone, without a bridge.
func modelMerge(a, b []impl.Point) ([]impl.Point, bool) {
	if !modelChains(a, b) {
		return nil, false
	}
	h := sideBySide(slices.Concat(a, b))
	return h[:slices.Index(h, b[len(b)-1])+1], true
}

// modelTree counts the numbers of nodes: a part of n points has 2 n - 1 of them.
func modelTree(s []impl.Point) (impl.HullTree, bool) {
	if !modelGood(s) || len(s) == 0 {
		return impl.HullTree{}, false
	}
	t := impl.HullTree{Points: slices.Clone(s)}
	type part struct{ from, to int }
	wait := []part{{0, len(s)}}
	for len(wait) > 0 {
		p := wait[len(wait)-1]
		wait = wait[:len(wait)-1]
		n := impl.Leaf{From: p.from, To: p.to}
		if many := p.to - p.from; many > 1 {
			middle := p.from + many/2
			n.Left = len(t.Nodes) + 1
			n.Right = len(t.Nodes) + 2*(middle-p.from)
			a, _ := modelLower(s[p.from:middle])
			b, _ := modelLower(s[middle:p.to])
			i, j, _ := modelBridge(a, b)
			n.Bridge = []int{slices.Index(s, a[i]), slices.Index(s, b[j])}
			wait = append(wait, part{middle, p.to}, part{p.from, middle})
		}
		t.Nodes = append(t.Nodes, n)
	}
	return t, true
}

func sameLeaf(a, b impl.Leaf) bool {
	return a.From == b.From && a.To == b.To && a.Left == b.Left && a.Right == b.Right && slices.Equal(a.Bridge, b.Bridge)
}

func sameTree(a, b impl.HullTree) bool {
	return slices.Equal(a.Points, b.Points) && slices.EqualFunc(a.Nodes, b.Nodes, sameLeaf)
}

func cloneTree(t impl.HullTree) impl.HullTree {
	c := impl.HullTree{Points: slices.Clone(t.Points)}
	for _, n := range t.Nodes {
		n.Bridge = slices.Clone(n.Bridge)
		c.Nodes = append(c.Nodes, n)
	}
	return c
}

func modelGoodTree(t impl.HullTree) bool {
	want, ok := modelTree(t.Points)
	return ok && sameTree(t, want)
}

func modelLowerAt(t impl.HullTree, node int) ([]impl.Point, bool) {
	if !modelGoodTree(t) || node < 0 || node >= len(t.Nodes) {
		return nil, false
	}
	return modelLower(t.Points[t.Nodes[node].From:t.Nodes[node].To])
}

// wayTo goes down from the first node to the one of a single point.
func wayTo(t impl.HullTree, k int) []int {
	path := []int{0}
	for n := t.Nodes[0]; n.To-n.From > 1; n = t.Nodes[path[len(path)-1]] {
		next := n.Left
		if k >= t.Nodes[n.Left].To {
			next = n.Right
		}
		path = append(path, next)
	}
	return path
}

func modelPath(t impl.HullTree, k int) ([]int, bool) {
	if !modelGoodTree(t) || k < 0 || k >= len(t.Points) {
		return nil, false
	}
	return wayTo(t, k), true
}

func modelRebuild(t impl.HullTree, p impl.Point) (impl.HullTree, []int, bool) {
	s, ok := modelPut(t.Points, p)
	if !ok || !modelGoodTree(t) {
		return impl.HullTree{}, nil, false
	}
	now, _ := modelTree(s)
	return now, wayTo(now, slices.Index(s, p)), true
}

// laidTree is a tree whose lists have room behind their lengths, and what all of its memory held at first.
type laidTree struct {
	tree   impl.HullTree
	points laid
	nodes  []impl.Leaf
	first  []impl.Leaf
	whole  [][]int
	each   [][]int
}

// behindLeaf lies behind the nodes of a laid tree, and behindNumber behind each bridge.
var behindLeaf = impl.Leaf{From: 7, To: 8}

const behindNumber = 1

func layTree(t impl.HullTree, room int) laidTree {
	l := laidTree{points: lay(t.Points, room)}
	for _, n := range t.Nodes {
		whole := slices.Concat(n.Bridge, slices.Repeat([]int{behindNumber}, room))
		n.Bridge = whole[:len(n.Bridge)]
		l.nodes = append(l.nodes, n)
		l.whole, l.each = append(l.whole, whole), append(l.each, slices.Clone(whole))
	}
	for range room {
		l.nodes = append(l.nodes, behindLeaf)
	}
	l.nodes = slices.Clip(l.nodes)
	l.tree = impl.HullTree{Points: l.points.list, Nodes: l.nodes[:len(t.Nodes)]}
	l.first = cloneTree(impl.HullTree{Nodes: l.nodes}).Nodes
	return l
}

func (l laidTree) untouched() bool {
	return l.points.untouched() && slices.EqualFunc(l.nodes, l.first, sameLeaf) && slices.EqualFunc(l.whole, l.each, slices.Equal)
}

// checkApart asks that no two lists share memory and that nothing lies behind them: each keeps its own mark, whatever is written into the others.
func checkApart(t *testing.T, name string, lists [][]int) {
	t.Helper()
	for i, l := range lists {
		whole := l[:cap(l)]
		for k := range whole {
			if k >= len(l) && whole[k] != 0 {
				t.Fatalf("%s hands out %v behind %v", name, whole[k], l)
			}
			whole[k] = -1000 - i
		}
	}
	for i, l := range lists {
		for _, k := range l {
			if k != -1000-i {
				t.Fatalf("%s: two lists share memory", name)
			}
		}
	}
}

// checkGrown holds a tree and a path against the wanted ones, and asks that all their lists are memory of their own.
func checkGrown(t *testing.T, name string, answer impl.HullTree, path []int, ok bool, want impl.HullTree, way []int, is bool, arguments ...laid) {
	t.Helper()
	if ok != is || !sameTree(answer, want) || !slices.Equal(path, way) {
		t.Fatalf("%s = %v, %v, %v; want %v, %v, %v", name, answer, path, ok, want, way, is)
	}
	lists := [][]int{path}
	for _, n := range answer.Nodes {
		lists = append(lists, n.Bridge)
	}
	whole := answer.Nodes[:cap(answer.Nodes)]
	for i := range whole {
		if i >= len(answer.Nodes) && !sameLeaf(whole[i], impl.Leaf{}) {
			t.Fatalf("%s hands out %v behind the nodes", name, whole[i])
		}
		whole[i] = impl.Leaf{From: -9, To: -9, Left: -9, Right: -9}
	}
	checkApart(t, name, lists)
	checkOwn(t, name, answer.Points, arguments...)
}

// checkTreeAt asks GoodTree, LowerAt, PathTo and RebuildWith of a tree that has that much room behind its lists.
func checkTreeAt(t *testing.T, tree impl.HullTree, node, k int, p impl.Point, room int) {
	t.Helper()
	l := layTree(tree, room)
	if impl.GoodTree(l.tree) != modelGoodTree(tree) {
		t.Fatal("GoodTree", tree)
	}
	lower, ok := impl.LowerAt(l.tree, node)
	wantLower, is := modelLowerAt(tree, node)
	checkList(t, "LowerAt", lower, ok, wantLower, is, l.points)
	path, ok := impl.PathTo(l.tree, k)
	if want, is := modelPath(tree, k); !slices.Equal(path, want) || ok != is {
		t.Fatal("PathTo", tree, k, path, ok, want)
	}
	checkApart(t, "PathTo", [][]int{path})
	grown, path, ok := impl.RebuildWith(l.tree, p)
	want, way, is := modelRebuild(tree, p)
	checkGrown(t, "RebuildWith", grown, path, ok, want, way, is, l.points)
	if !l.untouched() {
		t.Fatal("one of GoodTree to RebuildWith has written into", tree)
	}
}

// checkPair asks BridgeOf, IsBridge and MergeLower of two lists that have that much room behind them.
func checkPair(t *testing.T, a, b []impl.Point, i, j, room int) {
	t.Helper()
	one, two := lay(a, room), lay(b, room)
	x, y, ok := impl.BridgeOf(one.list, two.list)
	if m, n, is := modelBridge(a, b); x != m || y != n || ok != is {
		t.Fatal("BridgeOf", a, b, x, y, ok, m, n)
	}
	bridge, ok := impl.IsBridge(one.list, two.list, i, j)
	if want, is := modelIsBridge(a, b, i, j); bridge != want || ok != is {
		t.Fatal("IsBridge", a, b, i, j, bridge, ok)
	}
	checkOwn(t, "BridgeOf or IsBridge", nil, one, two)
	want, is := modelMerge(a, b)
	answer, ok := impl.MergeLower(one.list, two.list)
	checkList(t, "MergeLower", answer, ok, want, is, one, two)
}

// checkOneBridge holds the first half of promise 7 for two chains that are as said, and tells the bridge.
func checkOneBridge(t *testing.T, a, b []impl.Point) (int, int) {
	t.Helper()
	i, j, ok := impl.BridgeOf(a, b)
	if m, n, is := modelBridge(a, b); !ok || !is || i != m || j != n {
		t.Fatal("BridgeOf", a, b, i, j, ok, m, n, is)
	}
	if len(modelBridges(a, b)) != 1 {
		t.Fatal("not just one bridge", a, b, modelBridges(a, b))
	}
	for x := range a {
		for y := range b {
			if is, ok := impl.IsBridge(a, b, x, y); is != (x == i && y == j) || !ok {
				t.Fatal("IsBridge", a, b, x, y, is, ok)
			}
		}
	}
	merged, ok := impl.MergeLower(a, b)
	if !ok || !slices.Equal(merged, slices.Concat(a[:i+1], b[j:])) {
		t.Fatal("MergeLower", a, b, merged, ok)
	}
	if want, _ := modelMerge(a, b); !slices.Equal(merged, want) {
		t.Fatal("MergeLower is not the lower chain", a, b, merged, want)
	}
	if lower, ok := impl.LowerOf(slices.Concat(a, b)); ok && !slices.Equal(merged, lower) {
		t.Fatal("MergeLower is not LowerOf", a, b, merged, lower)
	}
	return i, j
}

// checkWholeTree holds the second half of promise 7 for a good set with a point at least, and tells its tree.
func checkWholeTree(t *testing.T, s []impl.Point) impl.HullTree {
	t.Helper()
	tree, ok := impl.BuildTree(s)
	if want, is := modelTree(s); !ok || !is || !sameTree(tree, want) || !impl.GoodTree(tree) {
		t.Fatal("BuildTree", s, tree, ok, want, is)
	}
	for node, n := range tree.Nodes {
		lower, ok := impl.LowerAt(tree, node)
		want, _ := impl.LowerOf(s[n.From:n.To])
		if model, _ := modelLower(s[n.From:n.To]); !ok || !slices.Equal(lower, want) || !slices.Equal(lower, model) {
			t.Fatal("LowerAt", s, node, lower, ok, want, model)
		}
		if n.Left > 0 {
			checkHalves(t, tree, node, lower)
		}
	}
	for k := range s {
		path, ok := impl.PathTo(tree, k)
		if !ok || !slices.Equal(path, wayTo(tree, k)) {
			t.Fatal("PathTo", s, k, path, ok)
		}
		if last := tree.Nodes[path[len(path)-1]]; last.From != k || last.To != k+1 {
			t.Fatal("PathTo ends at another point", s, k, path)
		}
	}
	return tree
}

// checkHalves asks that the lower chain of a node goes by its bridge over from that of its Left to that of its Right.
func checkHalves(t *testing.T, tree impl.HullTree, node int, lower []impl.Point) {
	t.Helper()
	n := tree.Nodes[node]
	a, _ := impl.LowerAt(tree, n.Left)
	b, _ := impl.LowerAt(tree, n.Right)
	if merged, ok := impl.MergeLower(a, b); !ok || !slices.Equal(lower, merged) {
		t.Fatal("LowerAt is not MergeLower of those of Left and Right", tree, node, lower, merged, ok)
	}
	i, j, _ := impl.BridgeOf(a, b)
	if tree.Points[n.Bridge[0]] != a[i] || tree.Points[n.Bridge[1]] != b[j] {
		t.Fatal("Bridge is not BridgeOf", tree, node, a, b, i, j)
	}
	if at := slices.Index(lower, a[i]); lower[at+1] != b[j] {
		t.Fatal("LowerAt does not go by the bridge", tree, node, lower)
	}
}

// checkRebuilt asks RebuildWith of a point for a tree that is good.
func checkRebuilt(t *testing.T, tree impl.HullTree, p impl.Point) {
	t.Helper()
	now, path, ok := impl.RebuildWith(tree, p)
	want, way, is := modelRebuild(tree, p)
	if ok != is || !sameTree(now, want) || !slices.Equal(path, way) {
		t.Fatal("RebuildWith", tree, p, now, path, ok)
	}
	if !ok {
		return
	}
	place, there := impl.PlaceOf(now.Points, p)
	if again, ok := impl.PathTo(now, place); !there || !ok || !slices.Equal(path, again) || !impl.GoodTree(now) {
		t.Fatal("RebuildWith and PathTo", tree, p, now, path, again, ok)
	}
}

// field has the points of so many upright rows, each with so many points.
func field(wide, high int) []impl.Point {
	var l []impl.Point
	for x := range wide {
		l = append(l, line(high, x, 0, impl.Point{Y: 1})...)
	}
	return l
}
