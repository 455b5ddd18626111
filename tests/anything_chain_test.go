package tests

import (
	"math"
	"slices"
	"testing"

	"loop.example/g00780/impl"
)

// pools are good ones and others, at the edges that the document names, with no chain so long that it can't be gone through.
func pools() []impl.Pool {
	n := numbers{state: 66}
	l := []impl.Pool{{}, {Nodes: []impl.Node{}}, leaves(1), leaves(2), leaves(impl.MaxNodes - 1), leaves(impl.MaxNodes), leaves(impl.MaxNodes + 1), leaves(500)}
	for _, s := range []shape{leanLeft, leanRight, fullShape, someShape(&n), someShape(&n)} {
		for _, high := range []int{2, 3, 4, 5} {
			var a impl.Pool
			next := -20
			grow(&a, s, high, &next)
			grow(&a, someShape(&n), 3, &next)
			l = append(l, a, fill(a, 0), fill(a, 1), fill(a, 9))
		}
	}
	l = append(l, doubled(6, func(k int) impl.Point { return impl.Point{X: k} }), doubled(10, func(int) impl.Point { return impl.Point{X: 3, Y: 4} }))
	for i := range 6 {
		a := doubled(6, func(k int) impl.Point { return impl.Point{Y: k} })
		a.Nodes[i].Size++
		b := doubled(6, func(k int) impl.Point { return impl.Point{Y: -k} })
		b.Nodes[i].Left = i + 1
		l = append(l, a, b, impl.Pool{Nodes: []impl.Node{behindNode, {Left: 1, Right: 2, Size: 3, High: 2}, {Left: -i}}})
	}
	return l
}

func TestPromise18AnyChains(t *testing.T) {
	lists := pointLists()
	for i, a := range pools() {
		many := len(a.Nodes)
		roots := []int{0, 1, many / 2, many - 1, many, many + 1, -1, math.MinInt, math.MaxInt}
		for j, x := range roots {
			size := 0
			if modelGoodRoot(a, x) {
				size = nodeAt(a, x).Size
			}
			for k, many := range []int{0, 1, size / 2, size - 1, size, size + 1, -1, math.MinInt, math.MaxInt} {
				d := anyPoints()[(i+j+k)%len(anyPoints())]
				q := asking{l: lists[(i+3*j+5*k)%len(lists)], x: x, y: roots[(j+k)%len(roots)], k: many, d: d, most: []int{0, -1, 3, math.MinInt, math.MaxInt}[(i+k)%5]}
				checkChains(t, a, q, (i+k)%3)
				q.d = impl.Point{X: 1, Y: k % 2}
				checkReads(t, a, q, 200)
			}
		}
	}
}

func TestPromise18AnyBuilds(t *testing.T) {
	for _, room := range []int{0, 1, 200} {
		for _, l := range pointLists() {
			for _, a := range []impl.Pool{{}, leaves(1), leaves(impl.MaxNodes - impl.MaxPoints), leaves(impl.MaxNodes - impl.MaxPoints + 1), leaves(impl.MaxNodes), leaves(impl.MaxNodes + 1)} {
				checkChains(t, a, asking{l: l}, room)
			}
		}
	}
}

func TestPromise18ManyChains(t *testing.T) {
	n := numbers{state: 67}
	for range 3000 {
		var a impl.Pool
		next := n.within(20)
		for range n.word() % 4 {
			grow(&a, someShape(&n), int(n.word()%6), &next)
		}
		many := len(a.Nodes)
		if many > 0 && n.word()%3 == 0 {
			spoil(&a.Nodes[n.word()%uint64(many)], &n)
		}
		q := asking{l: someList(&n, 9), x: n.within(many + 1), y: n.within(many + 1), k: n.within(12), d: n.point(1), most: n.within(20)}
		if n.word()%4 > 0 {
			q.x, q.y, q.k = max(q.x, -q.x), max(q.y, -q.y), max(q.k, -q.k)
		}
		checkChains(t, a, q, int(n.word()%4))
	}
}

// spoil changes a node in one thing, or in nothing.
func spoil(n *impl.Node, some *numbers) {
	by := some.within(2)
	switch some.word() % 5 {
	case 0:
		n.Left += by
	case 1:
		n.Right += by
	case 2:
		n.Size += by
	case 3:
		n.High += by
	case 4:
		n.At.X += by * impl.MaxXY
	}
}

// overwrite writes into all of an answer's memory.
func overwrite(a impl.Pool) {
	whole := a.Nodes[:cap(a.Nodes)]
	for i := range whole {
		whole[i] = impl.Node{Left: 1, Right: 1, Size: -3, High: 9}
	}
}

// Nothing is kept, and no answer shares memory with another one, even where nothing is made.
func TestPromise18ChainsAskedAgain(t *testing.T) {
	a, root, _ := impl.BuildChain(impl.Pool{}, rowList(1, 6))
	asks := []func() impl.Pool{
		func() impl.Pool { b, _, _ := impl.BuildChain(a, rowList(2, 4)); return b },
		func() impl.Pool { b, _, _ := impl.BuildChain(a, nil); return b },
		func() impl.Pool { b, _, _ := impl.JoinChains(a, root, 3); return b },
		func() impl.Pool { b, _, _ := impl.JoinChains(a, root, 0); return b },
		func() impl.Pool { b, _, _ := impl.JoinChains(a, 0, 0); return b },
		func() impl.Pool { b, _, _, _ := impl.SplitChain(a, root, 2); return b },
		func() impl.Pool { b, _, _, _ := impl.SplitChain(a, 0, 0); return b },
	}
	nodes := slices.Clone(a.Nodes)
	for i, ask := range asks {
		first := slices.Clone(ask().Nodes)
		if len(first) < len(nodes) {
			t.Fatal("asked for the first time", i, first)
		}
		for range 3 {
			one, two := ask(), ask()
			overwrite(one)
			if !slices.Equal(two.Nodes, first) || !slices.Equal(ask().Nodes, first) || !slices.Equal(a.Nodes, nodes) {
				t.Fatal("asked again", i, two, a)
			}
		}
	}
	one, _ := impl.ListOf(a, root)
	two, ok := impl.ListOf(a, root)
	one[0], one[5] = behind, behind
	if three, is := impl.ListOf(a, root); !ok || !is || !slices.Equal(two, rowList(1, 6)) || !slices.Equal(three, rowList(1, 6)) {
		t.Fatal("ListOf asked again", two, three)
	}
}

// What stands in the memory behind a pool's nodes, good nodes, is no root.
func TestPromise18BehindAPool(t *testing.T) {
	for _, room := range []int{1, 5} {
		pool := layPool(leaves(2), room)
		for root := 3; root < 9; root++ {
			if l, ok := impl.ListOf(pool.pool, root); impl.GoodRoot(pool.pool, root) || len(l) != 0 || ok {
				t.Error("a root behind the pool", root, l, ok)
			}
		}
		whole := pool.whole
		whole[1].Left, whole[1].Size, whole[1].High = 3, 2, 2
		if impl.GoodPool(impl.Pool{Nodes: whole[:2]}) {
			t.Error("a node that has one behind the pool")
		}
	}
}
