package lot

import (
	"acme/api"
	"acme/exact"
)

// leaf returns the leaf of a kind.
func leaf(kind int) api.LotNode {
	return api.LotNode{Gauge: api.LotNone, Kind: kind, No: api.LotNone, Yes: api.LotNone}
}

// isTree reports whether all nodes are as they should be, if so many gauges have said something. Each node goes on to later ones, so that each way ends at a leaf.
func isTree(nodes []api.LotNode, gauges int) bool {
	for number, node := range nodes {
		isLeaf := exact.AllFrom(0, api.MaxLotKinds-1, node.Kind) && node == leaf(node.Kind)
		isInner := node.Kind == api.LotNone && exact.AllFrom(0, gauges-1, node.Gauge) && exact.AllFrom(number+1, len(nodes)-1, node.No, node.Yes)
		if !isLeaf && !isInner {
			return false
		}
	}
	return true
}

// Walk follows a piece through a tree.
func Walk(tree []api.LotNode, said []bool) (kind, many int, e api.Errno) {
	if len(tree) > api.MaxLotNodes || len(said) > api.MaxLotGauges {
		return 0, 0, api.ErrLong
	}
	if len(tree) == 0 {
		return 0, 0, api.ErrArg
	}
	if !isTree(tree, len(said)) {
		return 0, 0, api.ErrForm
	}
	node := tree[0]
	for node.Kind == api.LotNone {
		next := node.No
		if said[node.Gauge] {
			next = node.Yes
		}
		node = tree[next]
		many++
	}
	return node.Kind, many, api.OK
}
