package tests

import (
	"math"
	"slices"
	"strconv"
	"testing"

	"loop.example/g00732/impl"
)

// tightLimit is the highest Cost that IsTight takes.
const tightLimit = 1000000000

func router(id int64) impl.Node {
	return impl.Node{Id: id}
}

func network(id int64) impl.Node {
	return impl.Node{Net: true, Id: id}
}

func edge(from impl.Node, to impl.Node, cost int64) impl.Edge {
	return impl.Edge{From: from, To: to, Cost: cost}
}

func route(to impl.Node, cost int64, hops ...impl.Node) impl.Route {
	return impl.Route{To: to, Cost: cost, Hops: hops}
}

// to and onto are links whose Own address is a number that no node has.
func to(id int64, cost int64) impl.Link {
	return point(id, 987654, cost)
}

func onto(id int64, cost int64) impl.Link {
	return transit(id, 987654, cost)
}

// joins is a network that tells these routers, told by a router that is nowhere else.
func joins(id int64, routers ...int64) impl.Lsa {
	return networkLsa(id, 654321, 255, routers...)
}

// known is a base of these, in whatever order they are given.
func known(list ...impl.Lsa) impl.Base {
	b := baseAt(7)
	for i, l := range list {
		b.Entries = append(b.Entries, entry(l, int64(i%7)))
	}
	slices.SortFunc(b.Entries, func(x impl.Entry, y impl.Entry) int { return plainCompare(x.Lsa.Key, y.Lsa.Key) })
	return b
}

func nodeName(n impl.Node) string {
	if n.Net {
		return "n" + strconv.FormatInt(n.Id, 10)
	}
	return "r" + strconv.FormatInt(n.Id, 10)
}

// isRoutes asks field by field, so that a SameRoutes that overlooks one does not hide it.
func isRoutes(a []impl.Route, b []impl.Route) bool {
	if len(a) != len(b) {
		return false
	}
	for i, r := range a {
		if r.To.Net != b[i].To.Net || r.To.Id != b[i].To.Id || r.Cost != b[i].Cost || !slices.Equal(r.Hops, b[i].Hops) {
			return false
		}
	}
	return true
}

func wantEdges(t *testing.T, what string, got impl.EdgesResult, want ...impl.Edge) {
	t.Helper()
	if got.Code != impl.OK || !slices.Equal(got.Edges, want) {
		t.Errorf("%s: got %v, want the edges %v", what, got, want)
	}
}

func wantEdgesCode(t *testing.T, what string, got impl.EdgesResult, code int64) {
	t.Helper()
	if got.Code != code || len(got.Edges) != 0 {
		t.Errorf("%s: got code %d and %d edges, want code %d alone", what, got.Code, len(got.Edges), code)
	}
}

func wantRoutes(t *testing.T, what string, got impl.RoutesResult, want ...impl.Route) {
	t.Helper()
	if got.Code != impl.OK || !isRoutes(got.Routes, want) {
		t.Errorf("%s: got %v, want the routes %v", what, got, want)
	}
}

func wantRoutesCode(t *testing.T, what string, got impl.RoutesResult, code int64) {
	t.Helper()
	if got.Code != code || len(got.Routes) != 0 {
		t.Errorf("%s: got code %d and %d routes, want code %d alone", what, got.Code, len(got.Routes), code)
	}
}

func wantCost(t *testing.T, what string, got impl.IntResult, cost int64) {
	t.Helper()
	wantInt(t, what, got, impl.IntResult{Value: cost})
}

// wantAll asks a base from the router 1: the routes, the cost to each of their nodes, and that they are tight.
func wantAll(t *testing.T, what string, b impl.Base, want ...impl.Route) {
	t.Helper()
	wantRoutes(t, what, impl.RoutesFrom(b, 1), want...)
	wantCost(t, what+", to the root", impl.CostTo(b, 1, router(1)), 0)
	for _, r := range want {
		wantCost(t, what+", to "+nodeName(r.To), impl.CostTo(b, 1, r.To), r.Cost)
	}
	if !impl.IsTight(impl.BothEnds(b).Edges, want, router(1)) {
		t.Errorf("%s: %v is not tight", what, want)
	}
}

// What follows is the chapter anew; all of it is asked of what has no fault.

func plainEdges(b impl.Base) []impl.Edge {
	var list []impl.Edge
	for _, e := range b.Entries {
		k := e.Lsa.Key
		for _, x := range e.Lsa.Links {
			if k.Type == impl.TypeRouter && x.Kind == impl.LinkPoint {
				list = append(list, edge(router(k.Adv), router(x.To), x.Cost))
			}
			if k.Type == impl.TypeRouter && x.Kind == impl.LinkTransit {
				list = append(list, edge(router(k.Adv), network(x.To), x.Cost))
			}
		}
		for _, id := range e.Lsa.Routers {
			if k.Type == impl.TypeNetwork {
				list = append(list, edge(network(k.Id), router(id), 0))
			}
		}
	}
	return list
}

func plainBoth(b impl.Base) []impl.Edge {
	var list []impl.Edge
	all := plainEdges(b)
	for _, e := range all {
		if slices.ContainsFunc(all, func(x impl.Edge) bool { return x.From == e.To && x.To == e.From }) {
			list = append(list, e)
		}
	}
	return list
}

// plainNodes are all nodes of the edges, routers ahead of networks, then by Id.
func plainNodes(edges []impl.Edge) []impl.Node {
	var routers, networks []impl.Node
	for _, e := range edges {
		for _, n := range []impl.Node{e.From, e.To} {
			if n.Net {
				networks = append(networks, n)
			} else {
				routers = append(routers, n)
			}
		}
	}
	list := append(sortedNodes(routers), sortedNodes(networks)...)
	return slices.Compact(list)
}

// sortedNodes are all routers, or all networks.
func sortedNodes(list []impl.Node) []impl.Node {
	slices.SortFunc(list, func(x impl.Node, y impl.Node) int {
		if x.Id < y.Id {
			return -1
		}
		if x.Id > y.Id {
			return 1
		}
		return 0
	})
	return list
}

const never = int64(1) << 40

// plainSums are the least sums between any two of the nodes, by all nodes between them one by one; never, if there is no way.
// Ways that touch the node without are left out, if there is one.
func plainSums(nodes []impl.Node, edges []impl.Edge, without *impl.Node) map[[2]impl.Node]int64 {
	sums := map[[2]impl.Node]int64{}
	for _, x := range nodes {
		for _, y := range nodes {
			sums[[2]impl.Node{x, y}] = never
		}
		sums[[2]impl.Node{x, x}] = 0
	}
	for _, e := range edges {
		if without == nil || e.From != *without && e.To != *without {
			at := [2]impl.Node{e.From, e.To}
			sums[at] = min(sums[at], e.Cost)
		}
	}
	for _, between := range nodes {
		for _, x := range nodes {
			for _, y := range nodes {
				sum := sums[[2]impl.Node{x, between}] + sums[[2]impl.Node{between, y}]
				at := [2]impl.Node{x, y}
				sums[at] = min(sums[at], sum)
			}
		}
	}
	return sums
}

// plainRoutes finds of each router that can be the first one, and of each end, whether the way to it and on from it without
// the root has the least sum: no way is followed for that.
func plainRoutes(b impl.Base, root int64) []impl.Route {
	start := router(root)
	edges := plainBoth(b)
	// The root is one of the nodes, even where it has no edge.
	nodes := plainNodes(append(loops([]impl.Node{start}), edges...))
	whole, rest := plainSums(nodes, edges, nil), plainSums(nodes, edges, &start)
	lead := map[impl.Node]int64{}
	for _, n := range nodes {
		lead[n] = never
	}
	for _, e := range edges {
		if e.From != start {
			continue
		}
		lead[e.To] = min(lead[e.To], e.Cost)
		for _, on := range edges {
			if e.To.Net && on.From == e.To {
				lead[on.To] = min(lead[on.To], e.Cost+on.Cost)
			}
		}
	}
	var list []impl.Route
	for _, end := range nodes {
		least := whole[[2]impl.Node{start, end}]
		if end == start || least >= never {
			continue
		}
		r := route(end, least)
		for _, hop := range nodes {
			if hop != start && (!hop.Net || hop == end) && lead[hop]+onward(rest, hop, end) == least {
				r.Hops = append(r.Hops, hop)
			}
		}
		list = append(list, r)
	}
	return list
}

// onward is 0 for a network as its own first hop: this way ends where it comes to it.
func onward(rest map[[2]impl.Node]int64, hop impl.Node, end impl.Node) int64 {
	if hop.Net {
		return 0
	}
	return rest[[2]impl.Node{hop, end}]
}

// walkedRoutes follows each way from root that does not come to it again, node by node. Behind the first hop, which is one of
// the first two nodes, no way that matters has a node twice: so many steps find all first hops, and all least sums.
func walkedRoutes(b impl.Base, root int64) []impl.Route {
	edges := plainBoth(b)
	nodes := plainNodes(edges)
	found := map[impl.Node]impl.Route{}
	var walk func(path []impl.Node, sum int64)
	walk = func(path []impl.Node, sum int64) {
		for _, e := range edges {
			if e.From != path[len(path)-1] || e.To == path[0] {
				continue
			}
			longer := append(slices.Clone(path), e.To)
			noteWay(found, longer, sum+e.Cost)
			if len(longer) <= len(nodes)+1 {
				walk(longer, sum+e.Cost)
			}
		}
	}
	walk([]impl.Node{router(root)}, 0)
	var list []impl.Route
	for _, n := range nodes {
		if r, ok := found[n]; ok {
			r.Hops = slices.Compact(plainNodes(loops(r.Hops)))
			list = append(list, r)
		}
	}
	return list
}

func loops(list []impl.Node) []impl.Edge {
	var edges []impl.Edge
	for _, n := range list {
		edges = append(edges, edge(n, n, 0))
	}
	return edges
}

func noteWay(found map[impl.Node]impl.Route, path []impl.Node, sum int64) {
	end := path[len(path)-1]
	hop := end
	for _, n := range slices.Backward(path[1:]) {
		if !n.Net {
			hop = n
		}
	}
	r, ok := found[end]
	if !ok || sum < r.Cost {
		r = route(end, sum)
	}
	if sum == r.Cost && !slices.Contains(r.Hops, hop) {
		r.Hops = append(r.Hops, hop)
	}
	found[end] = r
}

// plainTight asks each condition of its own, of each edge and route.
func plainTight(list []impl.Edge, routes []impl.Route, root impl.Node) bool {
	for _, e := range list {
		if e.Cost < 0 || e.Cost > tightLimit {
			return false
		}
	}
	for i, r := range routes {
		if r.Cost < 0 || r.Cost > tightLimit || r.To == root {
			return false
		}
		for _, x := range routes[:i] {
			if x.To == r.To {
				return false
			}
		}
	}
	for _, e := range list {
		from, ok := plainCost(routes, root, e.From)
		if !ok {
			continue
		}
		if cost, ok := plainCost(routes, root, e.To); !ok || cost > from+e.Cost {
			return false
		}
	}
	for _, r := range routes {
		tells := func(e impl.Edge) bool {
			from, ok := plainCost(routes, root, e.From)
			return ok && e.To == r.To && from+e.Cost == r.Cost
		}
		if !slices.ContainsFunc(list, tells) {
			return false
		}
	}
	return true
}

func plainCost(routes []impl.Route, root impl.Node, n impl.Node) (int64, bool) {
	if n == root {
		return 0, true
	}
	for _, r := range routes {
		if r.To == n {
			return r.Cost, true
		}
	}
	return 0, false
}

// randomNet has routers from 1 on and networks from 1 on, too: their Ids alone do not tell them apart. Links lead to those that
// are near, so that many are told by both ends; some tell nothing at all.
func randomNet(c *chance, routers int64, networks int64, links int64, costs ...int64) impl.Base {
	var list []impl.Lsa
	for id := int64(1); id <= routers; id++ {
		if id > 1 && c.below(10) == 0 {
			continue
		}
		l := routerLsa(id)
		for range 2 + c.below(links-1) {
			cost := costs[c.below(int64(len(costs)))]
			if networks > 0 && c.below(2) == 0 {
				l.Links = append(l.Links, onto(1+(id+c.below(3))%networks, cost))
			} else {
				l.Links = append(l.Links, to(1+(id+routers+c.below(5)-3)%routers, cost))
			}
		}
		list = append(list, l)
	}
	for id := int64(1); id <= networks; id++ {
		l := joins(id)
		for r := int64(1); r <= routers && len(l.Routers) < impl.MaxLinks; r++ {
			if c.below(4) > 0 && c.below(routers) < impl.MaxLinks {
				l.Routers = append(l.Routers, r)
			}
		}
		if len(l.Routers) > 0 {
			list = append(list, l)
		}
	}
	return known(list...)
}

// smallNets are bases of few nodes, of many kinds.
func smallNets() []impl.Base {
	var list []impl.Base
	for seed := range chance(800) {
		c := seed
		networks := c.below(3)
		routers := 2 + c.below(4-networks)
		costs := [][]int64{{0}, {0, 1}, {1}, {0, 1, 2, 3}, {1, 2, 5}, {0, impl.MaxCost}}[c.below(6)]
		list = append(list, randomNet(&c, routers, networks, 3+c.below(6), costs...))
	}
	return list
}

// largeNets have up to as many nodes and edges as a base can have.
func largeNets() []impl.Base {
	var list []impl.Base
	for seed := range chance(40) {
		c := seed
		networks := c.below(21)
		costs := [][]int64{{0}, {0, 1}, {1, 2, 3}, {0, 1, 2, 3, 4, 5, 6, 7}, {0, 65534, impl.MaxCost}}[c.below(5)]
		list = append(list, randomNet(&c, 10+c.below(impl.MaxEntries-networks-9), networks, 7+c.below(2), costs...))
	}
	return list
}

// triangle is the net of the chapter's own stage test: three routers, and a fourth one that tells nothing.
func triangle() impl.Base {
	return known(routerLsa(1, to(2, 3), to(3, 4), to(4, 1)), routerLsa(2, to(1, 1), to(3, 1)), routerLsa(3, to(1, 9), to(2, 9)))
}

func TestRouteConstantsHaveTheirNumbers(t *testing.T) {
	if impl.MaxNodes != 60 || impl.Unreached != -1 {
		t.Errorf("MaxNodes is %d, Unreached %d", impl.MaxNodes, impl.Unreached)
	}
}

func TestP8EdgesInOfNone(t *testing.T) {
	wantEdges(t, "nothing at all", impl.EdgesIn(impl.Base{}))
	wantEdges(t, "an empty base", impl.EdgesIn(baseAt(50)))
	wantEdges(t, "a router without links", impl.EdgesIn(known(routerLsa(5))))
	wantEdges(t, "what is far", impl.EdgesIn(known(summaryLsa(5, 6, 7, 8), summaryLsa(6, 6, 7, 8))))
}

func TestP8EdgesInOfRouters(t *testing.T) {
	l := routerLsa(5, onto(9, 4), to(7, 3), to(6, 0), onto(5, 1))
	wantEdges(t, "both kinds", impl.EdgesIn(known(l)),
		edge(router(5), network(9), 4), edge(router(5), router(7), 3), edge(router(5), router(6), 0), edge(router(5), network(5), 1))
	l = routerLsa(5, to(7, 3), to(7, 3), onto(7, 3), to(7, 2), onto(7, 3))
	wantEdges(t, "the same link twice", impl.EdgesIn(known(l)),
		edge(router(5), router(7), 3), edge(router(5), router(7), 3), edge(router(5), network(7), 3), edge(router(5), router(7), 2), edge(router(5), network(7), 3))
	wantEdges(t, "to itself", impl.EdgesIn(known(routerLsa(5, to(5, 8)))), edge(router(5), router(5), 8))
	l = routerLsa(impl.MaxId, to(0, impl.MaxCost), onto(0, 0), to(impl.MaxId, 1), onto(impl.MaxId, impl.MaxCost))
	wantEdges(t, "numbers at their bounds", impl.EdgesIn(known(l)),
		edge(router(impl.MaxId), router(0), impl.MaxCost), edge(router(impl.MaxId), network(0), 0), edge(router(impl.MaxId), router(impl.MaxId), 1), edge(router(impl.MaxId), network(impl.MaxId), impl.MaxCost))
}

func TestP8EdgesInOfNetworks(t *testing.T) {
	wantEdges(t, "its routers", impl.EdgesIn(known(joins(5, 1, 5, 9))), edge(network(5), router(1), 0), edge(network(5), router(5), 0), edge(network(5), router(9), 0))
	// The network is the one with its Id, whoever tells it.
	b := known(networkLsa(5, 3, 255, 2, 4), networkLsa(5, 1, 255, 2), networkLsa(4, 9, 0, 0, impl.MaxId))
	wantEdges(t, "told by two", impl.EdgesIn(b),
		edge(network(4), router(0), 0), edge(network(4), router(impl.MaxId), 0), edge(network(5), router(2), 0), edge(network(5), router(2), 0), edge(network(5), router(4), 0))
}

func TestP8EdgesInTheOrderOfEntries(t *testing.T) {
	b := known(summaryLsa(1, 1, 255, 9), joins(7, 2), routerLsa(9, to(8, 1)), joins(3, 9, 11), summaryLsa(3, 1, 255, 9), routerLsa(2, onto(3, 2), to(9, 3)), routerLsa(4), networkLsa(3, 1, 0, 8))
	wantEdges(t, "all Types", impl.EdgesIn(b),
		edge(router(2), network(3), 2), edge(router(2), router(9), 3), edge(router(9), router(8), 1),
		edge(network(3), router(8), 0), edge(network(3), router(9), 0), edge(network(3), router(11), 0), edge(network(7), router(2), 0))
	// How old something is does not turn what it tells.
	b.Now = 3000
	b.Entries[0].Lsa.Age = 500
	b.Entries[1].Lsa.Seq = -77
	wantEdges(t, "older", impl.EdgesIn(b), plainEdges(b)...)
}

func TestP8EdgesOfEachBase(t *testing.T) {
	for _, b := range slices.Concat(bases(), smallNets(), largeNets()) {
		wantEdges(t, baseName(b)+", all", impl.EdgesIn(b), plainEdges(b)...)
		wantEdges(t, baseName(b)+", both ends", impl.BothEnds(b), plainBoth(b)...)
	}
	var full []impl.Lsa
	for id := range int64(impl.MaxEntries) {
		full = append(full, routerLsa(id, manyLinks(impl.MaxLinks)...))
	}
	if b := known(full...); len(impl.EdgesIn(b).Edges) != impl.MaxEntries*impl.MaxLinks || !slices.Equal(impl.EdgesIn(b).Edges, plainEdges(b)) {
		t.Error("a base of as many edges as can be")
	}
}

func TestP8BothEndsOfRouters(t *testing.T) {
	wantEdges(t, "nothing at all", impl.BothEnds(impl.Base{}))
	wantEdges(t, "one end alone, the other one is not there", impl.BothEnds(known(routerLsa(1, to(2, 1)))))
	wantEdges(t, "one end alone, the other one tells nothing", impl.BothEnds(known(routerLsa(1, to(2, 1)), routerLsa(2))))
	wantEdges(t, "one end alone, the other one tells of a third one", impl.BothEnds(known(routerLsa(1, to(2, 1)), routerLsa(2, to(3, 1)), routerLsa(3, to(1, 1)))))
	wantEdges(t, "both", impl.BothEnds(known(routerLsa(1, to(2, 1)), routerLsa(2, to(1, 1)))), edge(router(1), router(2), 1), edge(router(2), router(1), 1))
	wantEdges(t, "both at other costs", impl.BothEnds(known(routerLsa(1, to(2, 0)), routerLsa(2, to(1, impl.MaxCost)))),
		edge(router(1), router(2), 0), edge(router(2), router(1), impl.MaxCost))
	wantEdges(t, "twice by one end", impl.BothEnds(known(routerLsa(1, to(2, 5), to(2, 3), to(2, 5)), routerLsa(2, to(1, 4)))),
		edge(router(1), router(2), 5), edge(router(1), router(2), 3), edge(router(1), router(2), 5), edge(router(2), router(1), 4))
	wantEdges(t, "twice by one end alone", impl.BothEnds(known(routerLsa(1, to(2, 5), to(2, 3)), routerLsa(2))))
	wantEdges(t, "to itself", impl.BothEnds(known(routerLsa(1, to(1, 5)))), edge(router(1), router(1), 5))
	wantEdges(t, "a network that has the Id of the router", impl.BothEnds(known(routerLsa(1, onto(2, 5)), routerLsa(2, to(1, 4)))))
}

func TestP8BothEndsOfNetworks(t *testing.T) {
	b := known(routerLsa(1, onto(9, 2)), routerLsa(2), routerLsa(3, onto(9, 0)), joins(9, 1, 2, 3, 4))
	wantEdges(t, "some of its routers do not tell it", impl.BothEnds(b),
		edge(router(1), network(9), 2), edge(router(3), network(9), 0), edge(network(9), router(1), 0), edge(network(9), router(3), 0))
	b = known(routerLsa(1, onto(9, 2), onto(8, 2)), routerLsa(2, onto(9, 3)), joins(9, 1))
	wantEdges(t, "it does not tell a router, and one is not there", impl.BothEnds(b), edge(router(1), network(9), 2), edge(network(9), router(1), 0))
	b = known(routerLsa(1, to(9, 2)), routerLsa(9), joins(9, 1))
	wantEdges(t, "the router with its Id is told", impl.BothEnds(b))
	b = known(routerLsa(2, onto(9, 2)), networkLsa(9, 1, 0, 1), networkLsa(9, 3, 0, 2))
	wantEdges(t, "told by two, one of which tells the router", impl.BothEnds(b), edge(router(2), network(9), 2), edge(network(9), router(2), 0))
	b = known(routerLsa(9, onto(9, 2)), joins(9, 9))
	wantEdges(t, "a router and a network of one Id", impl.BothEnds(b), edge(router(9), network(9), 2), edge(network(9), router(9), 0))
}

func TestP8RoutesFromOfTheStageTest(t *testing.T) {
	wantAll(t, "a triangle", triangle(), route(router(2), 3, router(2)), route(router(3), 4, router(2), router(3)))
	b := triangle()
	wantRoutes(t, "from 2", impl.RoutesFrom(b, 2), route(router(1), 1, router(1)), route(router(3), 1, router(3)))
	wantRoutes(t, "from 3", impl.RoutesFrom(b, 3), route(router(1), 9, router(1)), route(router(2), 9, router(2)))
	b = known(routerLsa(1, onto(11, 2)), routerLsa(2, onto(11, 5)), networkLsa(11, 1, 0, 1, 2, 3))
	wantAll(t, "a network", b, route(router(2), 2, router(2)), route(network(11), 2, network(11)))
	wantRoutes(t, "a network, from 2", impl.RoutesFrom(b, 2), route(router(1), 5, router(1)), route(network(11), 5, network(11)))
}

func TestP8RoutesFromARootThatIsNotThere(t *testing.T) {
	b := known(routerLsa(1, to(2, 1), to(4, 1), onto(9, 1)), routerLsa(2, to(1, 1)), joins(9, 1, 5), summaryLsa(3, 6, 255, 1))
	for _, root := range append(oddNumbers(), 3, 4, 5, 6, 9, 654321, 987654, -1) {
		if root == 1 || root == 2 {
			continue
		}
		wantRoutesCode(t, "not there", impl.RoutesFrom(b, root), impl.ErrNone)
		for _, n := range []impl.Node{router(root), router(1), router(2), network(9), network(root)} {
			wantInt(t, "not there, to "+nodeName(n), impl.CostTo(b, root, n), impl.IntResult{Code: impl.ErrNone})
		}
	}
	wantRoutesCode(t, "nothing at all", impl.RoutesFrom(impl.Base{}, 0), impl.ErrNone)
	wantInt(t, "nothing at all", impl.CostTo(impl.Base{}, 0, impl.Node{}), impl.IntResult{Code: impl.ErrNone})
	// A network is no root, nor is what is far, though the Adv is the same.
	for _, l := range []impl.Lsa{networkLsa(5, 5, 0, 5), summaryLsa(5, 5, 0, 5)} {
		wantRoutesCode(t, nameOf(l), impl.RoutesFrom(known(l), 5), impl.ErrNone)
	}
	for _, root := range []int64{0, 1, impl.MaxId} {
		wantRoutes(t, "there alone", impl.RoutesFrom(known(routerLsa(root)), root))
		wantCost(t, "there alone", impl.CostTo(known(routerLsa(root)), root, router(root)), 0)
	}
}

func TestP8RoutesFromARootThatReachesNone(t *testing.T) {
	nets := map[string]impl.Base{
		"no links":                       known(routerLsa(1), routerLsa(2, to(3, 1)), routerLsa(3, to(2, 1))),
		"told by the root alone":         known(routerLsa(1, to(2, 0), onto(9, 0), to(4, 0)), routerLsa(2), joins(9, 2)),
		"told by the others alone":       known(routerLsa(1), routerLsa(2, to(1, 0)), joins(9, 1)),
		"a link to itself":               known(routerLsa(1, to(1, 0), to(1, 5))),
		"another kind":                   known(routerLsa(1, onto(2, 0)), routerLsa(2, to(1, 0)), routerLsa(9, to(1, 0)), joins(9, 1)),
		"the network of the root's Id":   known(routerLsa(1), routerLsa(2, onto(1, 0)), joins(1, 2)),
		"told by both, but from another": known(routerLsa(1, to(2, 0)), routerLsa(2, to(3, 0)), routerLsa(3, to(2, 0), to(1, 0))),
	}
	for what, b := range nets {
		wantAll(t, what, b)
		for _, n := range []impl.Node{router(2), router(3), router(4), network(9), network(1)} {
			wantCost(t, what+", to "+nodeName(n), impl.CostTo(b, 1, n), impl.Unreached)
		}
	}
}

func TestP8WhatIsToldByOneEndAloneMakesNoRoute(t *testing.T) {
	// The short way from 1 to 3 is told by one end alone, be it this one or that one.
	long := route(router(3), 40, router(2))
	wantAll(t, "by 1", known(routerLsa(1, to(2, 20), to(3, 1)), routerLsa(2, to(1, 20), to(3, 20)), routerLsa(3, to(2, 20))), route(router(2), 20, router(2)), long)
	wantAll(t, "by 3", known(routerLsa(1, to(2, 20)), routerLsa(2, to(1, 20), to(3, 20)), routerLsa(3, to(2, 20), to(1, 1))), route(router(2), 20, router(2)), long)
	b := known(routerLsa(1, to(2, 20), onto(9, 1)), routerLsa(2, to(1, 20), to(3, 20)), routerLsa(3, to(2, 20)), joins(9, 1, 3))
	wantAll(t, "by the network", b, route(router(2), 20, router(2)), long, route(network(9), 1, network(9)))
	b = known(routerLsa(1, to(2, 20), onto(9, 1)), routerLsa(2, to(1, 20), to(3, 20)), routerLsa(3, to(2, 20), onto(9, 1)), joins(9, 1))
	wantAll(t, "by the router of a network", b, route(router(2), 20, router(2)), long, route(network(9), 1, network(9)))
	// In a chain all behind the gap are without a route.
	b = known(routerLsa(1, to(2, 1)), routerLsa(2, to(1, 1), to(3, 1)), routerLsa(3, to(4, 1)), routerLsa(4, to(3, 1)))
	wantAll(t, "a gap in a chain", b, route(router(2), 1, router(2)))
	wantCost(t, "ahead of the gap", impl.CostTo(b, 1, router(3)), impl.Unreached)
	wantCost(t, "behind the gap", impl.CostTo(b, 1, router(4)), impl.Unreached)
	wantRoutes(t, "from behind the gap", impl.RoutesFrom(b, 4), route(router(3), 1, router(3)))
}

// bothWays are routers that tell each other at these costs: from, to, the cost there, the cost back.
func bothWays(list ...[4]int64) impl.Base {
	links := map[int64][]impl.Link{}
	for _, x := range list {
		links[x[0]] = append(links[x[0]], to(x[1], x[2]))
		links[x[1]] = append(links[x[1]], to(x[0], x[3]))
	}
	var told []impl.Lsa
	for id, l := range links {
		told = append(told, routerLsa(id, l...))
	}
	return known(told...)
}

func TestP8WaysOfTheSameSumTellAllTheirFirstHops(t *testing.T) {
	b := bothWays([4]int64{1, 5, 1, 1}, [4]int64{1, 3, 2, 1}, [4]int64{1, 4, 1, 1}, [4]int64{5, 9, 3, 1}, [4]int64{3, 9, 2, 1}, [4]int64{4, 9, 4, 1}, [4]int64{9, 2, 1, 1})
	wantAll(t, "two of three", b, route(router(2), 5, router(3), router(5)), route(router(3), 2, router(3)),
		route(router(4), 1, router(4)), route(router(5), 1, router(5)), route(router(9), 4, router(3), router(5)))
	// Two ways over the same first hop tell it once.
	b = bothWays([4]int64{1, 8, 1, 1}, [4]int64{8, 2, 1, 1}, [4]int64{8, 3, 1, 1}, [4]int64{2, 4, 1, 1}, [4]int64{3, 4, 1, 1})
	wantAll(t, "one first hop", b, route(router(2), 2, router(8)), route(router(3), 2, router(8)), route(router(4), 3, router(8)), route(router(8), 1, router(8)))
	// The neighbour itself is one of the first hops to it.
	b = bothWays([4]int64{1, 2, 5, 1}, [4]int64{1, 3, 2, 1}, [4]int64{3, 2, 3, 1}, [4]int64{1, 4, 4, 1}, [4]int64{4, 2, 2, 1})
	wantAll(t, "a neighbour", b, route(router(2), 5, router(2), router(3)), route(router(3), 2, router(3)), route(router(4), 4, router(4)))
	// A way of more steps at less cost.
	b = bothWays([4]int64{1, 5, 9, 1}, [4]int64{1, 2, 1, 9}, [4]int64{2, 3, 1, 9}, [4]int64{3, 4, 1, 9}, [4]int64{4, 5, 1, 9})
	wantAll(t, "more steps", b, route(router(2), 1, router(2)), route(router(3), 2, router(2)), route(router(4), 3, router(2)), route(router(5), 4, router(2)))
}

func TestP8ManyFirstHopsRise(t *testing.T) {
	// Each of eight neighbours leads to 100 by the same sum; they are told in an order that does not rise.
	var list []impl.Lsa
	root, far := routerLsa(1), routerLsa(100)
	var want []impl.Route
	hops := []impl.Node{}
	for i := range int64(impl.MaxLinks) {
		id := 10 + i*5%8
		root.Links, far.Links = append(root.Links, to(id, i)), append(far.Links, to(id, 2))
		list = append(list, routerLsa(id, to(100, 30-i), to(1, 5)))
		hops = append(hops, router(10+i))
	}
	for i := range int64(impl.MaxLinks) {
		want = append(want, route(router(10+i), i*5%8, router(10+i)))
	}
	list = append(list, root, far)
	wantAll(t, "eight", known(list...), append(want, route(router(100), 30, hops...))...)
}

func TestP8CostsOfZero(t *testing.T) {
	b := bothWays([4]int64{1, 2, 0, 0})
	wantAll(t, "a neighbour", b, route(router(2), 0, router(2)))
	b = bothWays([4]int64{1, 2, 0, 0}, [4]int64{2, 3, 0, 0}, [4]int64{3, 4, 1, 1})
	wantAll(t, "a chain", b, route(router(2), 0, router(2)), route(router(3), 0, router(2)), route(router(4), 1, router(2)))
	// In a ring with the root each one is reached both ways round.
	b = bothWays([4]int64{1, 2, 0, 0}, [4]int64{2, 3, 0, 0}, [4]int64{3, 4, 0, 0}, [4]int64{4, 1, 0, 0})
	wantAll(t, "a ring with the root", b, route(router(2), 0, router(2), router(4)), route(router(3), 0, router(2), router(4)), route(router(4), 0, router(2), router(4)))
	// The ring 2, 3, 4 is entered at 2 and at 4: each one is reached by both, and so is what is behind it.
	b = bothWays([4]int64{1, 2, 5, 5}, [4]int64{1, 4, 5, 5}, [4]int64{2, 3, 0, 0}, [4]int64{3, 4, 0, 0}, [4]int64{4, 2, 0, 0}, [4]int64{3, 6, 1, 1})
	both := []impl.Node{router(2), router(4)}
	wantAll(t, "a ring behind the root", b, route(router(2), 5, both...), route(router(3), 5, both...), route(router(4), 5, both...), route(router(6), 6, both...))
	// Round the ring it costs nothing one way, and something the other way.
	b = bothWays([4]int64{1, 2, 5, 5}, [4]int64{1, 4, 5, 5}, [4]int64{2, 3, 0, 9}, [4]int64{3, 4, 0, 9}, [4]int64{4, 2, 0, 9})
	wantAll(t, "a ring of one way", b, route(router(2), 5, both...), route(router(3), 5, both...), route(router(4), 5, both...))
	b = bothWays([4]int64{1, 2, 5, 5}, [4]int64{1, 4, 6, 5}, [4]int64{2, 3, 0, 0}, [4]int64{3, 4, 0, 0}, [4]int64{4, 2, 0, 0})
	wantAll(t, "a ring entered by more", b, route(router(2), 5, router(2)), route(router(3), 5, router(2)), route(router(4), 5, router(2)))
	// What is told late in the list leads to what was found at once.
	b = bothWays([4]int64{1, 9, 0, 0}, [4]int64{9, 8, 0, 0}, [4]int64{8, 7, 0, 0}, [4]int64{7, 6, 0, 0}, [4]int64{1, 6, 0, 0})
	both = []impl.Node{router(6), router(9)}
	wantAll(t, "a ring that falls", b, route(router(6), 0, both...), route(router(7), 0, both...), route(router(8), 0, both...), route(router(9), 0, both...))
}

func TestP8WaysThatComeToTheRootAgain(t *testing.T) {
	// From 2 back to 1 and on to 3 it is not longer than from 1 to 3, but it comes to the root again.
	b := bothWays([4]int64{1, 2, 0, 0}, [4]int64{1, 3, 4, 4})
	wantAll(t, "back from a neighbour", b, route(router(2), 0, router(2)), route(router(3), 4, router(3)))
	b = bothWays([4]int64{1, 2, 0, 0}, [4]int64{1, 3, 0, 0}, [4]int64{1, 4, 0, 0})
	wantAll(t, "a star", b, route(router(2), 0, router(2)), route(router(3), 0, router(3)), route(router(4), 0, router(4)))
	b = bothWays([4]int64{1, 2, 0, 0}, [4]int64{2, 3, 0, 0}, [4]int64{3, 1, 0, 9}, [4]int64{1, 5, 2, 2}, [4]int64{5, 6, 1, 1})
	wantAll(t, "round a ring", b, route(router(2), 0, router(2)), route(router(3), 0, router(2)), route(router(5), 2, router(5)), route(router(6), 3, router(5)))
	b = known(routerLsa(1, to(1, 0), to(2, 1)), routerLsa(2, to(2, 0), to(1, 0)))
	wantAll(t, "links to itself", b, route(router(2), 1, router(2)))
	b = known(routerLsa(1, onto(9, 0), to(3, 7)), routerLsa(2, onto(9, 0)), routerLsa(3, to(1, 7)), joins(9, 1, 2))
	wantAll(t, "back from a network", b, route(router(2), 0, router(2)), route(router(3), 7, router(3)), route(network(9), 0, router(2), network(9)))
	b = known(routerLsa(1, onto(8, 0), onto(9, 0)), routerLsa(2, onto(8, 3)), routerLsa(3, onto(9, 3)), joins(8, 1, 2), joins(9, 1, 3))
	wantAll(t, "from a network to another one over the root", b,
		route(router(2), 0, router(2)), route(router(3), 0, router(3)), route(network(8), 0, network(8)), route(network(9), 0, network(9)))
}

func TestP8TwoEdgesBetweenTheSameNodes(t *testing.T) {
	b := known(routerLsa(1, to(2, 7), to(2, 3), to(2, 5)), routerLsa(2, to(1, 1), to(1, 8), to(3, 6), to(3, 2)), routerLsa(3, to(2, 4)))
	wantAll(t, "the lesser one counts", b, route(router(2), 3, router(2)), route(router(3), 5, router(2)))
	wantRoutes(t, "back", impl.RoutesFrom(b, 3), route(router(1), 5, router(2)), route(router(2), 4, router(2)))
	b = known(routerLsa(1, to(2, 3), to(2, 3), onto(9, 3), onto(9, 3)), routerLsa(2, to(1, 3), onto(9, 1)), joins(9, 1, 2))
	wantAll(t, "both alike", b, route(router(2), 3, router(2)), route(network(9), 3, network(9)))
	b = known(routerLsa(1, onto(9, 6), onto(9, 2)), routerLsa(2, onto(9, 4), onto(9, 1)), networkLsa(9, 1, 0, 1, 2), networkLsa(9, 2, 0, 1, 2))
	wantAll(t, "a network told by two", b, route(router(2), 2, router(2)), route(network(9), 2, network(9)))
	wantRoutes(t, "a network told by two, from 2", impl.RoutesFrom(b, 2), route(router(1), 1, router(1)), route(network(9), 1, network(9)))
}

func TestP8ANetworkAsTheFirstNode(t *testing.T) {
	b := known(routerLsa(1, onto(9, 2)), routerLsa(2, onto(9, 5)), routerLsa(3, onto(9, 5), to(4, 1)), routerLsa(4, to(3, 1)), joins(9, 1, 2, 3))
	wantAll(t, "its routers are the first hops behind it", b, route(router(2), 2, router(2)), route(router(3), 2, router(3)), route(router(4), 3, router(3)), route(network(9), 2, network(9)))
	// The network and the link lead to 2 by the same sum, over the same router.
	b = known(routerLsa(1, onto(9, 2), to(2, 2)), routerLsa(2, onto(9, 5), to(1, 2)), joins(9, 1, 2))
	wantAll(t, "and a link", b, route(router(2), 2, router(2)), route(network(9), 2, network(9)))
	// The network is reached over 2 at the same cost, too: routers stand ahead of networks.
	b = known(routerLsa(1, onto(3, 7), to(5, 4)), routerLsa(5, onto(3, 3), to(1, 4)), joins(3, 1, 5))
	wantAll(t, "and a router ahead of it", b, route(router(5), 4, router(5)), route(network(3), 7, router(5), network(3)))
	// Behind the network there are the router ahead of it, and the one that the network tells.
	b = known(routerLsa(1, onto(3, 7), to(5, 4)), routerLsa(5, onto(3, 3), to(1, 4)), routerLsa(6, onto(3, 1)), joins(3, 1, 5, 6))
	wantAll(t, "and what is behind it", b, route(router(5), 4, router(5)), route(router(6), 7, router(5), router(6)), route(network(3), 7, router(5), network(3)))
	b = known(routerLsa(1, onto(3, 8), to(5, 4)), routerLsa(5, onto(3, 3), to(1, 4)), routerLsa(6, onto(3, 1)), joins(3, 1, 5, 6))
	wantAll(t, "where the router ahead of it is nearer", b, route(router(5), 4, router(5)), route(router(6), 7, router(5)), route(network(3), 7, router(5)))
	b = known(routerLsa(1, onto(8, 2), onto(9, 2)), routerLsa(2, onto(8, 1), onto(9, 1)), joins(8, 1, 2), joins(9, 1, 2))
	wantAll(t, "two networks to one router", b, route(router(2), 2, router(2)), route(network(8), 2, network(8)), route(network(9), 2, network(9)))
	// A router has the Id of the network.
	b = known(routerLsa(1, onto(9, 2)), routerLsa(9, onto(9, 5)), joins(9, 1, 9))
	wantAll(t, "a router of the same Id", b, route(router(9), 2, router(9)), route(network(9), 2, network(9)))
	// The network has the Id of the root: it is reached, and is not the root.
	b = known(routerLsa(1, onto(1, 2)), routerLsa(2, onto(1, 5)), joins(1, 1, 2))
	wantAll(t, "the Id of the root", b, route(router(2), 2, router(2)), route(network(1), 2, network(1)))
}

func TestP8WaysThatComeToANetworkAgain(t *testing.T) {
	// Only the root may not come again: from 2 back to the network it costs nothing, so that 2 is a first hop of what is there, too.
	b := known(routerLsa(1, onto(9, 2)), routerLsa(2, onto(9, 0)), routerLsa(3, onto(9, 1)), joins(9, 1, 2, 3))
	wantAll(t, "at no cost", b, route(router(2), 2, router(2)), route(router(3), 2, router(2), router(3)), route(network(9), 2, router(2), network(9)))
	b = known(routerLsa(1, onto(9, 2)), routerLsa(2, onto(9, 0)), routerLsa(3, onto(9, 0)), joins(9, 1, 2, 3))
	both := []impl.Node{router(2), router(3)}
	wantAll(t, "at no cost from both", b, route(router(2), 2, both...), route(router(3), 2, both...), route(network(9), 2, router(2), router(3), network(9)))
	b = known(routerLsa(1, onto(9, 2)), routerLsa(2, onto(9, 1)), routerLsa(3, onto(9, 1)), joins(9, 1, 2, 3))
	wantAll(t, "at a cost", b, route(router(2), 2, router(2)), route(router(3), 2, router(3)), route(network(9), 2, network(9)))
}

func TestP8AWayThroughTwoNetworks(t *testing.T) {
	b := known(routerLsa(1, onto(8, 2)), routerLsa(2, onto(8, 1), onto(9, 3)), routerLsa(3, onto(9, 1)), joins(8, 1, 2), joins(9, 2, 3))
	wantAll(t, "one behind the other", b, route(router(2), 2, router(2)), route(router(3), 5, router(2)), route(network(8), 2, network(8)), route(network(9), 5, router(2)))
	wantRoutes(t, "back", impl.RoutesFrom(b, 3), route(router(1), 2, router(2)), route(router(2), 1, router(2)), route(network(8), 2, router(2)), route(network(9), 1, network(9)))
	b = known(routerLsa(1, onto(8, 2)), routerLsa(2, onto(8, 1), onto(9, 3)), routerLsa(3, onto(9, 1)), routerLsa(4, onto(8, 1), onto(9, 3)), joins(8, 1, 2, 4), joins(9, 2, 3, 4))
	wantAll(t, "over two routers", b, route(router(2), 2, router(2)), route(router(3), 5, router(2), router(4)), route(router(4), 2, router(4)),
		route(network(8), 2, network(8)), route(network(9), 5, router(2), router(4)))
}

func TestP8RoutesRiseRoutersAheadOfNetworks(t *testing.T) {
	b := known(routerLsa(50, onto(7, 1), to(300, 9), onto(400, 3), to(2, 9)), routerLsa(300, to(50, 1)), routerLsa(2, to(50, 1), to(60, 1)), routerLsa(60, to(2, 1), onto(0, 1)),
		joins(7, 50), joins(400, 50), joins(0, 60), routerLsa(0, onto(0, 1)), joins(51, 2))
	wantRoutes(t, "from 50", impl.RoutesFrom(b, 50), route(router(2), 9, router(2)), route(router(60), 10, router(2)), route(router(300), 9, router(300)),
		route(network(0), 11, router(2)), route(network(7), 1, network(7)), route(network(400), 3, network(400)))
	// Ids that differ in their high bits alone, and by more than half of all numbers.
	b = known(routerLsa(0, to(1<<31, 1), to(impl.MaxId, 1), to(1, 1), onto(impl.MaxId, 1), onto(3, 1)), routerLsa(1<<31, to(0, 1)), routerLsa(impl.MaxId, to(0, 1)), routerLsa(1, to(0, 1)), joins(impl.MaxId, 0), joins(3, 0))
	wantRoutes(t, "far Ids", impl.RoutesFrom(b, 0), route(router(1), 1, router(1)), route(router(1<<31), 1, router(1<<31)), route(router(impl.MaxId), 1, router(impl.MaxId)),
		route(network(3), 1, network(3)), route(network(impl.MaxId), 1, network(impl.MaxId)))
}

func TestP8ALongChainOfTheHighestCosts(t *testing.T) {
	var list []impl.Lsa
	var want []impl.Route
	for id := int64(1); id <= impl.MaxEntries; id++ {
		list = append(list, routerLsa(id, to(id-1, impl.MaxCost), to(id+1, impl.MaxCost)))
		if id > 1 {
			want = append(want, route(router(id), (id-1)*impl.MaxCost, router(2)))
		}
	}
	wantAll(t, "a chain", known(list...), want...)
	slices.Reverse(list)
	for i, l := range list {
		// The same chain, with Ids that fall from the root on.
		list[i] = routerLsa(100-l.Key.Id, to(100-l.Key.Id-1, 1), to(100-l.Key.Id+1, 1))
	}
	b := known(list...)
	wantCost(t, "the end of a chain that falls", impl.CostTo(b, 99, router(60)), 39)
	wantRoutes(t, "a chain that falls", impl.RoutesFrom(b, 99), plainRoutes(b, 99)...)
}

func TestP8CostTo(t *testing.T) {
	b := known(routerLsa(1, to(2, 3), onto(9, 4), to(5, 1)), routerLsa(2, to(1, 6)), routerLsa(3, onto(9, 2)), joins(9, 1, 3), routerLsa(7, to(8, 1)), routerLsa(8, to(7, 1)), summaryLsa(4, 4, 0, 2))
	for n, want := range map[impl.Node]int64{
		router(1): 0, router(2): 3, router(3): 4, network(9): 4, router(5): impl.Unreached, router(7): impl.Unreached, router(8): impl.Unreached,
		network(1): impl.Unreached, network(2): impl.Unreached, router(9): impl.Unreached, router(4): impl.Unreached, network(4): impl.Unreached,
		router(0): impl.Unreached, {Id: -1}: impl.Unreached, {Net: true, Id: math.MinInt64}: impl.Unreached, router(math.MaxInt64): impl.Unreached,
	} {
		wantCost(t, "from 1 to "+nodeName(n), impl.CostTo(b, 1, n), want)
	}
	wantCost(t, "from 2 to 1", impl.CostTo(b, 2, router(1)), 6)
	wantCost(t, "from 2 to 3", impl.CostTo(b, 2, router(3)), 10)
	wantCost(t, "from 2 to itself", impl.CostTo(b, 2, router(2)), 0)
	wantCost(t, "from 3 to 2", impl.CostTo(b, 3, router(2)), 5)
	wantCost(t, "from 7 to 1", impl.CostTo(b, 7, router(1)), impl.Unreached)
	// A link of the root to itself does not make it farther.
	wantCost(t, "to itself at a cost", impl.CostTo(known(routerLsa(1, to(1, 5))), 1, router(1)), 0)
	wantCost(t, "the network of its Id", impl.CostTo(known(routerLsa(1, onto(1, 5)), joins(1, 1)), 1, network(1)), 5)
}

// wantPlain asks from each router of b; plain tells the routes.
func wantPlain(t *testing.T, b impl.Base, plain func(b impl.Base, root int64) []impl.Route) {
	t.Helper()
	both := impl.BothEnds(b).Edges
	for _, e := range b.Entries {
		root := e.Lsa.Key.Adv
		if e.Lsa.Key.Type != impl.TypeRouter {
			continue
		}
		got, want := impl.RoutesFrom(b, root), plain(b, root)
		if got.Code != impl.OK || !isRoutes(got.Routes, want) {
			t.Errorf("%v from %d: got %v, want %v", b, root, got, want)
		}
		if !impl.IsTight(both, got.Routes, router(root)) {
			t.Errorf("%v from %d: %v is not tight", b, root, got)
		}
		for _, n := range append(plainNodes(plainEdges(b)), router(99), network(99)) {
			cost, ok := plainCost(want, router(root), n)
			if !ok {
				cost = impl.Unreached
			}
			wantCost(t, baseName(b)+", to "+nodeName(n), impl.CostTo(b, root, n), cost)
		}
	}
}

func TestP8RoutesAreLeastOfAllWaysThatAreWalked(t *testing.T) {
	for _, b := range smallNets() {
		wantPlain(t, b, walkedRoutes)
	}
}

func TestP8RoutesAreThoseOfAPlainSearch(t *testing.T) {
	for _, b := range slices.Concat(smallNets(), largeNets(), bases()) {
		wantPlain(t, b, plainRoutes)
	}
}

func TestP8RingsOfZeroOfAsManyNodesAsCanBe(t *testing.T) {
	// All ways cost nothing: there are more of them than can be followed.
	var list []impl.Lsa
	for id := range int64(20) {
		l, n := routerLsa(id), joins(id)
		for i := range int64(4) {
			l.Links = append(l.Links, to((id+1+i)%20, 0), onto((id+i*3)%20, 0))
		}
		for i := range int64(impl.MaxLinks) {
			n.Routers = append(n.Routers, (id+20-i)%20)
		}
		slices.Sort(n.Routers)
		l.Links = l.Links[:impl.MaxLinks]
		list = append(list, l, n)
	}
	for id := range int64(20) {
		list[2*id].Links[0] = to((id+19)%20, 0)
	}
	wantPlain(t, known(list...), plainRoutes)
}

// withoutOneEnds is b without all links and routers that the other end does not tell.
func withoutOneEnds(b impl.Base) impl.Base {
	both := plainBoth(b)
	rest := baseAt(b.Now)
	for _, e := range cloneBase(b).Entries {
		k := e.Lsa.Key
		e.Lsa.Links = slices.DeleteFunc(e.Lsa.Links, func(x impl.Link) bool {
			return !slices.Contains(both, edge(router(k.Adv), impl.Node{Net: x.Kind == impl.LinkTransit, Id: x.To}, x.Cost))
		})
		e.Lsa.Routers = slices.DeleteFunc(e.Lsa.Routers, func(id int64) bool { return !slices.Contains(both, edge(network(k.Id), router(id), 0)) })
		if k.Type != impl.TypeNetwork || len(e.Lsa.Routers) > 0 {
			rest.Entries = append(rest.Entries, e)
		}
	}
	return rest
}

func TestP8RoutesHangOnWhatBothEndsTellAlone(t *testing.T) {
	for _, b := range slices.Concat(smallNets(), largeNets()) {
		rest := withoutOneEnds(b)
		wantEdges(t, baseName(b), impl.EdgesIn(rest), impl.BothEnds(b).Edges...)
		for _, e := range b.Entries {
			if e.Lsa.Key.Type == impl.TypeRouter {
				wantRoutes(t, baseName(b), impl.RoutesFrom(rest, e.Lsa.Key.Adv), impl.RoutesFrom(b, e.Lsa.Key.Adv).Routes...)
			}
		}
	}
}

// tightCase is a small net that is tight, from the router 1.
func tightCase() ([]impl.Edge, []impl.Route, impl.Node) {
	edges := []impl.Edge{
		edge(router(1), router(2), 3), edge(router(2), router(1), 0), edge(router(1), network(9), 5), edge(network(9), router(3), 0),
		edge(router(2), router(3), 4), edge(router(3), router(4), 2), edge(router(2), router(3), 2), edge(router(7), router(8), 1),
	}
	return edges, []impl.Route{route(router(2), 3), route(router(3), 5), route(router(4), 7), route(network(9), 5)}, router(1)
}

func wantTight(t *testing.T, what string, edges []impl.Edge, routes []impl.Route, root impl.Node, want bool) {
	t.Helper()
	if got := impl.IsTight(edges, routes, root); got != want {
		t.Errorf("%s: got %v, want %v", what, got, want)
	}
}

func TestP8IsTightOfWhatIs(t *testing.T) {
	edges, routes, root := tightCase()
	wantTight(t, "a small net", edges, routes, root, true)
	wantTight(t, "nothing at all", nil, nil, impl.Node{}, true)
	wantTight(t, "empty lists", []impl.Edge{}, []impl.Route{}, network(-5), true)
	slices.Reverse(edges)
	slices.Reverse(routes)
	wantTight(t, "in another order", edges, routes, root, true)
	// Hops are not asked.
	routes[0].Hops = []impl.Node{router(77), router(77)}
	wantTight(t, "any Hops", edges, routes, root, true)
	wantTight(t, "edges of others alone", []impl.Edge{edge(router(5), router(6), 1), edge(router(6), router(1), 0)}, nil, router(1), true)
	wantTight(t, "edges back to the root", []impl.Edge{edge(router(1), router(1), 0), edge(router(1), router(1), 7)}, nil, router(1), true)
	wantTight(t, "the highest costs", []impl.Edge{edge(router(1), router(2), tightLimit), edge(router(2), router(1), tightLimit)}, []impl.Route{route(router(2), tightLimit)}, router(1), true)
	wantTight(t, "costs of 0", []impl.Edge{edge(router(1), router(2), 0), edge(router(2), router(3), 0)}, []impl.Route{route(router(2), 0), route(router(3), 0)}, router(1), true)
	wantTight(t, "Ids that are none", []impl.Edge{edge(network(-1), router(math.MinInt64), 4)}, []impl.Route{route(router(math.MinInt64), 4)}, network(-1), true)
	// A ring of Cost 0 that nothing leads to: each one of it has an edge at which the costs are the same.
	ring := []impl.Edge{edge(router(5), router(6), 0), edge(router(6), router(5), 0)}
	wantTight(t, "a ring on its own", ring, []impl.Route{route(router(5), 8), route(router(6), 8)}, router(1), true)
	// A link to itself is such an edge, too.
	self := []impl.Edge{edge(router(1), router(2), 5), edge(router(2), router(2), 0)}
	wantTight(t, "a link to itself", self, []impl.Route{route(router(2), 4)}, router(1), true)
	wantTight(t, "a link to itself, too high", self, []impl.Route{route(router(2), 6)}, router(1), false)
	wantTight(t, "a ring of two costs", ring, []impl.Route{route(router(5), 8), route(router(6), 7)}, router(1), false)
}

func TestP8IsTightOfASingleThingThatIsWrong(t *testing.T) {
	_, _, root := tightCase()
	turns := map[string]func(edges *[]impl.Edge, routes *[]impl.Route){
		"a Cost below 0 in list":            func(e *[]impl.Edge, r *[]impl.Route) { (*e)[7].Cost = -1 },
		"the least Cost in list":            func(e *[]impl.Edge, r *[]impl.Route) { (*e)[7].Cost = math.MinInt64 },
		"a Cost above the bound in list":    func(e *[]impl.Edge, r *[]impl.Route) { (*e)[7].Cost = tightLimit + 1 },
		"the highest Cost in list":          func(e *[]impl.Edge, r *[]impl.Route) { (*e)[4].Cost = math.MaxInt64 },
		"a Cost below 0 back to the root":   func(e *[]impl.Edge, r *[]impl.Route) { (*e)[1].Cost = -1 },
		"a Cost above it back to the root":  func(e *[]impl.Edge, r *[]impl.Route) { (*e)[1].Cost = tightLimit + 1 },
		"a Cost below 0 in routes":          func(e *[]impl.Edge, r *[]impl.Route) { *r = append(*r, route(router(8), -1)) },
		"a Cost above the bound in routes":  func(e *[]impl.Edge, r *[]impl.Route) { (*r)[3].Cost = tightLimit + 1 },
		"the highest Cost in routes":        func(e *[]impl.Edge, r *[]impl.Route) { (*r)[0].Cost = math.MaxInt64 },
		"two with the same To":              func(e *[]impl.Edge, r *[]impl.Route) { *r = append(*r, (*r)[1]) },
		"two with the same To, one dearer":  func(e *[]impl.Edge, r *[]impl.Route) { *r = append(*r, route(router(3), 9)) },
		"one dearer with the same To ahead": func(e *[]impl.Edge, r *[]impl.Route) { *r = append([]impl.Route{route(router(3), 9)}, *r...) },
		"one to the root":                   func(e *[]impl.Edge, r *[]impl.Route) { *r = append(*r, route(router(1), 0)) },
		"one to the root at a cost":         func(e *[]impl.Edge, r *[]impl.Route) { *r = append([]impl.Route{route(router(1), 3)}, *r...) },
		"a Cost too high at the end":        func(e *[]impl.Edge, r *[]impl.Route) { (*r)[2].Cost++ },
		"a Cost too high in between":        func(e *[]impl.Edge, r *[]impl.Route) { (*r)[1].Cost++; (*r)[2].Cost++ },
		"a Cost too low at the end":         func(e *[]impl.Edge, r *[]impl.Route) { (*r)[2].Cost-- },
		"a Cost too low, and all behind it": func(e *[]impl.Edge, r *[]impl.Route) { (*r)[1].Cost--; (*r)[2].Cost-- },
		"a route that no edge leads to":     func(e *[]impl.Edge, r *[]impl.Route) { *r = append(*r, route(router(20), 4)) },
		"a route that leads on alone":       func(e *[]impl.Edge, r *[]impl.Route) { *r = append(*r, route(router(7), 4), route(router(8), 5)) },
		"a route to the network of its Id":  func(e *[]impl.Edge, r *[]impl.Route) { *r = append(*r, route(network(1), 0)) },
		"the network of the Id missing":     func(e *[]impl.Edge, r *[]impl.Route) { (*r)[3].To.Net = false },
		"an edge more to what is not there": func(e *[]impl.Edge, r *[]impl.Route) { *e = append(*e, edge(router(4), network(2), 0)) },
		"a shorter edge":                    func(e *[]impl.Edge, r *[]impl.Route) { *e = append(*e, edge(router(1), router(4), 6)) },
		"the edge that tells gone":          func(e *[]impl.Edge, r *[]impl.Route) { *e = slices.Delete(*e, 5, 6) },
		"the edge that tells, a dearer one": func(e *[]impl.Edge, r *[]impl.Route) { (*e)[5].Cost++ },
		"no routes":                         func(e *[]impl.Edge, r *[]impl.Route) { *r = nil },
		"no edges":                          func(e *[]impl.Edge, r *[]impl.Route) { *e = nil },
	}
	for what, turn := range turns {
		edges, routes, _ := tightCase()
		turn(&edges, &routes)
		wantTight(t, what, edges, routes, root, false)
		slices.Reverse(edges)
		slices.Reverse(routes)
		wantTight(t, what+", the other way round", edges, routes, root, false)
	}
	// Nothing else is wrong with these: each Cost is told by an edge, and none is above a sum.
	ring := []impl.Edge{edge(router(5), router(6), 0), edge(router(6), router(5), 0)}
	for _, cost := range []int64{-1, math.MinInt64, tightLimit + 1, math.MaxInt64} {
		wantTight(t, "a ring of a Cost that is none", ring, []impl.Route{route(router(5), cost), route(router(6), cost)}, root, false)
	}
	chain := []impl.Edge{edge(router(1), router(2), tightLimit), edge(router(2), router(3), 1)}
	wantTight(t, "a sum above the bound", chain, []impl.Route{route(router(2), tightLimit), route(router(3), tightLimit+1)}, root, false)
	wantTight(t, "a way to the root", []impl.Edge{edge(router(1), router(1), 0)}, []impl.Route{route(router(1), 0)}, root, false)
	two := []impl.Edge{edge(router(1), router(2), 4), edge(router(1), router(2), 3)}
	wantTight(t, "the dearer one of two edges", two, []impl.Route{route(router(2), 4)}, root, false)
	wantTight(t, "both of two edges", two, []impl.Route{route(router(2), 4), route(router(2), 3)}, root, false)
	edges, routes, _ := tightCase()
	for at, r := range routes {
		wantTight(t, "without the To "+nodeName(r.To), edges, slices.Delete(slices.Clone(routes), at, at+1), root, false)
	}
	for _, n := range []impl.Node{router(2), router(3), router(4), network(9), network(1), router(8)} {
		wantTight(t, "from "+nodeName(n), edges, routes, n, false)
	}
}

func TestP8IsTightAtItsBounds(t *testing.T) {
	for _, n := range oddNumbers() {
		in := n >= 0 && n <= tightLimit
		wantTight(t, "a Cost", []impl.Edge{edge(router(1), router(2), n)}, []impl.Route{route(router(2), n)}, router(1), in)
		wantTight(t, "a Cost of others", []impl.Edge{edge(router(5), router(6), n)}, nil, router(1), in)
		wantTight(t, "a route that is tight or not", []impl.Edge{edge(router(1), router(2), 1)}, []impl.Route{route(router(2), n)}, router(1), n == 1)
		// Together both are more than the bound, which is asked of each one alone.
		two := []impl.Edge{edge(router(1), router(2), tightLimit), edge(router(2), router(3), n), edge(router(1), router(3), 5)}
		wantTight(t, "a sum", two, []impl.Route{route(router(2), tightLimit), route(router(3), 5)}, router(1), in)
	}
}

func TestP8IsTightOfAnyLists(t *testing.T) {
	tight := 0
	for seed := range chance(30000) {
		c := seed
		some := func() impl.Node { return impl.Node{Net: c.below(4) == 0, Id: c.below(3)} }
		cost := func() int64 {
			return []int64{0, 0, 0, 1, 1, 2, 3, -1, tightLimit, tightLimit + 1}[c.below(7+3*(c.below(20)/19))]
		}
		var edges []impl.Edge
		var routes []impl.Route
		for range c.below(6) {
			edges = append(edges, edge(some(), some(), cost()))
		}
		for range c.below(4) {
			routes = append(routes, route(some(), cost(), some()))
		}
		want := plainTight(edges, routes, router(1))
		if want && len(routes) > 0 {
			tight++
		}
		if got := impl.IsTight(edges, routes, router(1)); got != want {
			t.Errorf("%v and %v: got %v, want %v", edges, routes, got, want)
		}
	}
	if tight < 100 {
		t.Errorf("%d of these are tight: too few to tell anything", tight)
	}
}

func TestP8WhatIsTightIsLeast(t *testing.T) {
	// Costs that differ from the least ones in one place alone are not tight, where no edge costs nothing.
	for seed := range chance(60) {
		c := seed
		b := randomNet(&c, 2+c.below(4), 0, 4, 1, 2, 3)
		both := impl.BothEnds(b).Edges
		routes := impl.RoutesFrom(b, 1).Routes
		for at := range routes {
			for _, by := range []int64{-1, 1} {
				other := cloneRoutes(routes)
				other[at].Cost += by
				wantTight(t, "one that is not least", both, other, router(1), false)
			}
		}
	}
}

func cloneRoutes(list []impl.Route) []impl.Route {
	list = slices.Clone(list)
	for i, r := range list {
		list[i].Hops = slices.Clone(r.Hops)
	}
	return list
}

func TestP8SameRoutes(t *testing.T) {
	for _, list := range oddRoutes() {
		if !impl.SameRoutes(list, list) || !impl.SameRoutes(list, cloneRoutes(list)) {
			t.Errorf("%d routes: not the same as themselves", len(list))
		}
	}
	if !impl.SameRoutes(nil, []impl.Route{}) || !impl.SameRoutes([]impl.Route{}, nil) {
		t.Error("an empty list and nil are not the same")
	}
	empty := []impl.Route{{To: router(1), Hops: []impl.Node{}}}
	if !impl.SameRoutes(empty, []impl.Route{{To: router(1)}}) || !impl.SameRoutes([]impl.Route{{To: router(1)}}, empty) {
		t.Error("empty Hops and nil are not the same")
	}
}

func TestP8SameRoutesOfOneThingThatDiffers(t *testing.T) {
	turns := []func(r *impl.Route){
		func(r *impl.Route) { r.To.Net = !r.To.Net }, func(r *impl.Route) { r.To.Id++ }, func(r *impl.Route) { r.To.Id = -r.To.Id }, func(r *impl.Route) { r.Cost++ },
		func(r *impl.Route) { r.Cost = -r.Cost }, func(r *impl.Route) { r.Hops[0].Net = !r.Hops[0].Net }, func(r *impl.Route) { r.Hops[1].Id-- }, func(r *impl.Route) { r.Hops[1].Net = !r.Hops[1].Net },
		func(r *impl.Route) { r.Hops = r.Hops[:1] }, func(r *impl.Route) { r.Hops = nil }, func(r *impl.Route) { r.Hops = append(r.Hops, impl.Node{}) }, func(r *impl.Route) { slices.Reverse(r.Hops) },
	}
	list := []impl.Route{
		route(router(2), 3, router(4), router(5)), route(network(2), -3, network(4), router(4)), route(router(-2), math.MaxInt64-1, router(9), router(8)), route(router(7), 1, network(1), network(2)),
	}
	for at := range list {
		for i, turn := range turns {
			other := cloneRoutes(list)
			turn(&other[at])
			if impl.SameRoutes(list, other) || impl.SameRoutes(other, list) {
				t.Errorf("the same after turn %d at %d", i, at)
			}
		}
		shorter := slices.Delete(cloneRoutes(list), at, at+1)
		if impl.SameRoutes(list, shorter) || impl.SameRoutes(shorter, list) {
			t.Errorf("the same without %d", at)
		}
		twice := slices.Insert(cloneRoutes(list), at, list[at])
		if impl.SameRoutes(list, twice) || impl.SameRoutes(twice, list) {
			t.Errorf("the same with %d twice", at)
		}
		other := cloneRoutes(list)
		other[at], other[(at+1)%4] = other[(at+1)%4], other[at]
		if impl.SameRoutes(list, other) {
			t.Errorf("the same in another order, at %d", at)
		}
	}
}

// wantRouteCodes asks for this code of all that asks a base, whatever else is asked.
func wantRouteCodes(t *testing.T, what string, b impl.Base, code int64) {
	t.Helper()
	wantEdgesCode(t, what+", EdgesIn", impl.EdgesIn(b), code)
	wantEdgesCode(t, what+", BothEnds", impl.BothEnds(b), code)
	roots := []int64{1, 2, 99, -1, impl.MaxId + 1, math.MinInt64}
	if len(b.Entries) > 0 {
		roots = append(roots, b.Entries[0].Lsa.Key.Adv, b.Entries[len(b.Entries)-1].Lsa.Key.Adv)
	}
	for _, root := range roots {
		wantRoutesCode(t, what+", RoutesFrom", impl.RoutesFrom(b, root), code)
		for _, n := range []impl.Node{router(root), network(root), router(2)} {
			wantInt(t, what+", CostTo", impl.CostTo(b, root, n), impl.IntResult{Code: code})
		}
	}
}

func TestP8TheFaultOfTheBaseIsAskedFirst(t *testing.T) {
	good := triangle()
	turn := func(turn func(e *impl.Entry)) impl.Base { return turnedAt(good, 1, turn) }
	wantRouteCodes(t, "no time", baseAt(-1, good.Entries...), impl.ErrRange)
	wantRouteCodes(t, "a time too far", baseAt(impl.MaxTime+1, good.Entries...), impl.ErrRange)
	wantRouteCodes(t, "too many", baseAt(7, manyEntries(7, impl.MaxEntries+1)...), impl.ErrMany)
	wantRouteCodes(t, "a Type that is none", turn(func(e *impl.Entry) { e.Lsa.Key.Type = 4 }), impl.ErrForm)
	wantRouteCodes(t, "an Id that is not its Adv", turn(func(e *impl.Entry) { e.Lsa.Key.Id = 4 }), impl.ErrForm)
	wantRouteCodes(t, "links of a network", turn(func(e *impl.Entry) { e.Lsa.Key.Type = impl.TypeNetwork }), impl.ErrForm)
	wantRouteCodes(t, "routers of a router", turn(func(e *impl.Entry) { e.Lsa.Routers = []int64{1} }), impl.ErrForm)
	wantRouteCodes(t, "a Cost below 0", turn(func(e *impl.Entry) { e.Lsa.Links[1].Cost = -1 }), impl.ErrRange)
	wantRouteCodes(t, "a Cost too high", turn(func(e *impl.Entry) { e.Lsa.Links[1].Cost = impl.MaxCost + 1 }), impl.ErrRange)
	wantRouteCodes(t, "a kind that is none", turn(func(e *impl.Entry) { e.Lsa.Links[0].Kind = 3 }), impl.ErrRange)
	wantRouteCodes(t, "too many links", turn(func(e *impl.Entry) { e.Lsa.Links = manyLinks(9) }), impl.ErrMany)
	wantRouteCodes(t, "a network without routers", known(joins(9)), impl.ErrMany)
	wantRouteCodes(t, "put there later", turn(func(e *impl.Entry) { e.At = 8 }), impl.ErrRange)
	wantRouteCodes(t, "too old", turn(func(e *impl.Entry) { e.Lsa.Age = impl.MaxAge }), impl.ErrRange)
	wantRouteCodes(t, "two of a Key", baseAt(7, good.Entries[0], good.Entries[0]), impl.ErrForm)
	wantRouteCodes(t, "what does not rise", baseAt(7, good.Entries[1], good.Entries[0]), impl.ErrForm)
}

func oddEdges() [][]impl.Edge {
	list := [][]impl.Edge{nil, {}, {{}}, make([]impl.Edge, 100000)}
	for _, n := range oddNumbers() {
		list = append(list, []impl.Edge{edge(router(1), router(n), n), edge(router(n), network(n), 1), edge(network(n), router(1), 0)}, []impl.Edge{edge(router(n), router(n), n)})
	}
	return list
}

func oddRoutes() [][]impl.Route {
	list := [][]impl.Route{nil, {}, {{}}, make([]impl.Route, 100000), {{Hops: make([]impl.Node, 100000)}}}
	for _, n := range oddNumbers() {
		list = append(list, []impl.Route{route(router(n), n, router(n), network(n)), route(network(n), 1)}, []impl.Route{route(router(n), 1), route(router(-n), n, network(-n))})
	}
	return list
}

func TestP1EveryFunctionOfRoutesAnswers(t *testing.T) {
	for _, b := range oddBases() {
		if code := impl.BaseFault(b); code != impl.OK {
			wantRouteCodes(t, baseName(b), b, code)
			continue
		}
		wantEdges(t, baseName(b), impl.EdgesIn(b), plainEdges(b)...)
		wantEdges(t, baseName(b), impl.BothEnds(b), plainBoth(b)...)
		wantPlain(t, b, plainRoutes)
	}
	b := triangle()
	for _, n := range oddNumbers() {
		if n < 1 || n > 3 {
			wantRoutesCode(t, "no root", impl.RoutesFrom(b, n), impl.ErrNone)
			wantCost(t, "no router", impl.CostTo(b, 1, router(n)), impl.Unreached)
		}
		wantCost(t, "no network", impl.CostTo(b, 1, network(n)), impl.Unreached)
	}
	for _, edges := range oddEdges() {
		for _, routes := range oddRoutes() {
			for _, root := range []impl.Node{{}, router(1), network(math.MinInt64)} {
				got := impl.IsTight(edges, routes, root)
				if len(edges) < 10 && len(routes) < 10 && got != plainTight(edges, routes, root) {
					t.Errorf("%v, %v and %v: got %v", edges, routes, root, got)
				}
			}
		}
	}
	for i, x := range oddRoutes() {
		for k, y := range oddRoutes() {
			if impl.SameRoutes(x, y) != isRoutes(x, y) {
				t.Errorf("SameRoutes of the odd ones %d and %d", i, k)
			}
		}
	}
}

// roomyEdges and roomyRoutes have room behind the end of each list, in which something stands.
func roomyEdges(list []impl.Edge) []impl.Edge {
	return append(slices.Clone(list), edge(router(-91), router(-92), -93), edge(router(-94), router(-95), -96))[:len(list)]
}

func roomyRoutes(list []impl.Route) []impl.Route {
	list = append(slices.Clone(list), route(router(-91), -92), route(router(-93), -94))[:len(list)]
	for i, r := range list {
		list[i].Hops = append(slices.Clone(r.Hops), router(-95), router(-96))[:len(r.Hops)]
	}
	return list
}

// wholeRoutes are as long as the lists are with what was put behind them.
func wholeRoutes(list []impl.Route) []impl.Route {
	n := len(list)
	list = slices.Clone(list[:n+2])
	for i, r := range list[:n] {
		list[i].Hops = slices.Clone(r.Hops[:len(r.Hops)+2])
	}
	return list
}

func spoilNodes(list []impl.Node) {
	list = list[:cap(list)]
	for i := range list {
		list[i] = network(-66)
	}
}

func spoilEdges(list []impl.Edge) {
	list = list[:cap(list)]
	for i := range list {
		list[i] = edge(network(-66), network(-66), -66)
	}
}

// spoilRoutes turns all that the lists have, and all that there is room for behind them.
func spoilRoutes(list []impl.Route) {
	list = list[:cap(list)]
	for i, r := range list {
		spoilNodes(r.Hops)
		list[i] = route(network(-66), -66, network(-66))
	}
}

// routeBases are bases that have routes, and some that have a fault.
func routeBases() []impl.Base {
	return slices.Concat(smallNets()[:60], largeNets()[:8], []impl.Base{
		triangle(), {}, baseAt(-1, triangle().Entries...), baseAt(7, triangle().Entries[1], triangle().Entries[0]), turnedAt(triangle(), 1, func(e *impl.Entry) { e.Lsa.Links[0].Cost = -1 }),
	})
}

func TestP1RoutesChangeNoArgument(t *testing.T) {
	for _, b := range routeBases() {
		given := roomyBase(b)
		before := wholeBase(given)
		impl.EdgesIn(given)
		impl.BothEnds(given)
		for _, root := range []int64{1, 2, 3, 99} {
			impl.RoutesFrom(given, root)
			impl.CostTo(given, root, router(2))
		}
		if !isBase(given, b) || !isBase(wholeBase(given), before) {
			t.Errorf("%s: it was changed", baseName(b))
		}
		edges, routes := roomyEdges(impl.BothEnds(b).Edges), roomyRoutes(impl.RoutesFrom(b, 1).Routes)
		slices.Reverse(routes)
		edgesBefore, routesBefore := slices.Clone(edges[:len(edges)+2]), wholeRoutes(routes)
		impl.IsTight(edges, routes, router(1))
		impl.IsTight(edges, routes, router(2))
		impl.SameRoutes(routes, routesBefore)
		impl.SameRoutes(routesBefore, routes)
		if !slices.Equal(edges[:len(edges)+2], edgesBefore) || !isRoutes(wholeRoutes(routes), routesBefore) {
			t.Errorf("%s: edges or routes were changed", baseName(b))
		}
	}
}

func TestP1EdgesAreNewMemory(t *testing.T) {
	for _, b := range routeBases() {
		for _, ask := range []func(b impl.Base) impl.EdgesResult{impl.EdgesIn, impl.BothEnds} {
			given := roomyBase(b)
			before := wholeBase(given)
			first, second := ask(given), ask(given)
			want := slices.Clone(second.Edges)
			spoilEdges(first.Edges)
			if !isBase(wholeBase(given), before) {
				t.Errorf("%s: an answer shares memory with its argument", baseName(b))
			}
			spoilBase(impl.BaseResult{Base: given})
			if !slices.Equal(second.Edges, want) {
				t.Errorf("%s: an answer hangs on its argument, or on another answer", baseName(b))
			}
		}
		all, both := impl.EdgesIn(b).Edges, impl.BothEnds(b).Edges
		want := slices.Clone(both)
		spoilEdges(all)
		if !slices.Equal(both, want) {
			t.Errorf("%s: BothEnds shares memory with EdgesIn", baseName(b))
		}
	}
}

func TestP1RoutesAreNewMemory(t *testing.T) {
	for _, b := range routeBases() {
		given := roomyBase(b)
		before := wholeBase(given)
		first, second := impl.RoutesFrom(given, 1), impl.RoutesFrom(given, 1)
		want := cloneRoutes(second.Routes)
		spoilRoutes(first.Routes)
		if !isBase(wholeBase(given), before) {
			t.Errorf("%s: routes share memory with the base", baseName(b))
		}
		spoilBase(impl.BaseResult{Base: given})
		if !isRoutes(second.Routes, want) {
			t.Errorf("%s: routes hang on the base, or on another answer", baseName(b))
		}
	}
}

func TestP1TheHopsOfRoutesShareNoMemory(t *testing.T) {
	// Behind 2 and 3 there are four that have the same Hops.
	same := bothWays([4]int64{1, 2, 1, 1}, [4]int64{1, 3, 1, 1}, [4]int64{2, 4, 1, 1}, [4]int64{3, 4, 1, 1}, [4]int64{4, 5, 1, 1}, [4]int64{5, 6, 1, 1}, [4]int64{4, 7, 0, 0})
	for _, b := range append(routeBases(), same) {
		got := impl.RoutesFrom(b, 1).Routes
		want := cloneRoutes(got)
		for at, r := range got {
			spoilNodes(r.Hops)
			copy(r.Hops, want[at].Hops)
			_ = append(r.Hops, network(-77), network(-78))
			if !isRoutes(got, want) {
				t.Fatalf("%s: the Hops of route %d share memory with others", baseName(b), at)
			}
		}
	}
}

func TestP1RoutesHangOnArgumentsAlone(t *testing.T) {
	others := []impl.Base{{}, triangle(), baseAt(9, manyEntries(9, impl.MaxEntries)...), baseAt(-1)}
	for i, b := range routeBases() {
		edges, both, routes, cost := impl.EdgesIn(b), impl.BothEnds(b), impl.RoutesFrom(b, 1), impl.CostTo(b, 1, router(2))
		other := others[i%len(others)]
		impl.BothEnds(other)
		impl.RoutesFrom(other, 1)
		impl.CostTo(other, 1, router(3))
		impl.IsTight(edges.Edges, routes.Routes, router(2))
		for range 3 {
			if again := impl.EdgesIn(roomyBase(b)); again.Code != edges.Code || !slices.Equal(again.Edges, edges.Edges) {
				t.Errorf("%s: EdgesIn once more tells %v, and told %v", baseName(b), again, edges)
			}
			if again := impl.BothEnds(roomyBase(b)); again.Code != both.Code || !slices.Equal(again.Edges, both.Edges) {
				t.Errorf("%s: BothEnds once more tells %v, and told %v", baseName(b), again, both)
			}
			if again := impl.RoutesFrom(roomyBase(b), 1); again.Code != routes.Code || !isRoutes(again.Routes, routes.Routes) {
				t.Errorf("%s: RoutesFrom once more tells %v, and told %v", baseName(b), again, routes)
			}
			wantInt(t, baseName(b)+", CostTo once more", impl.CostTo(roomyBase(b), 1, router(2)), cost)
		}
		tight := impl.IsTight(both.Edges, routes.Routes, router(1))
		if again := impl.IsTight(roomyEdges(both.Edges), roomyRoutes(routes.Routes), router(1)); again != tight {
			t.Errorf("%s: IsTight once more tells %v", baseName(b), again)
		}
	}
}
