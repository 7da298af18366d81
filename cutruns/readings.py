"""Words as those look at them who ask whether they agree: leg by leg, locks as masks."""

from cutruns.pieces import held_by, mask_of, parts_in_legs


class Node:
    """An edge or a use of a word in a leg: at most one of its three masks is not 0."""

    def __init__(self, part, side, gives, uses, takes):
        self.part = part
        self.side = side
        self.gives = gives
        self.uses = uses
        self.takes = takes

    def leads_to(self, other):
        """Whether an arrow leads from this node to the one of another word."""
        return self.gives & (other.uses | other.takes) > 0 or self.uses & other.takes > 0


class Leg:
    """A leg of a word: the locks held at its begin, at its end, through it, those touched in it, and its nodes."""

    def __init__(self, begin, end, nodes):
        self.begin = begin
        self.end = end
        self.nodes = nodes
        given = 0
        self.touched = 0
        for node in nodes:
            given = given | node.gives
            self.touched = self.touched | node.uses | node.takes
        self.through = begin - (begin & given)

    def shares(self, other):
        """The mask of the locks that are shared by this leg's word, the first one, and the other's."""
        return self.begin & other.begin | self.end & other.end | self.through & other.touched


def read_legs(word):
    """The list of the legs of the word."""
    legs = []
    begin = 0
    for parts in parts_in_legs(word):
        last, _ = parts[-1]
        end = mask_of(held_by(word[:last + 1]))
        legs.append(Leg(begin, end, _nodes_of(parts)))
        begin = end
    return legs


def _nodes_of(parts):
    nodes = []
    for at, (edge, lock, used) in parts:
        if edge == "give":
            nodes.append(Node(at, 0, mask_of([lock]), 0, 0))
        if edge == "take":
            nodes.append(Node(at, 0, 0, 0, mask_of([lock])))
        if len(used) > 0:
            nodes.append(Node(at, 1, 0, mask_of(used), 0))
    return nodes


def first_shared(legs):
    """A tuple (mask, position, position) of locks that are shared in this leg of several words, None if none is."""
    for first, leg in enumerate(legs):
        for second, other in enumerate(legs):
            if first != second and leg.shares(other) > 0:
                return leg.shares(other), first, second
    return None


class Tangle:
    """The nodes of a leg of several words, told by this leg of each of them, and the arrows between them."""

    def __init__(self, legs):
        self.legs = legs
        self.nodes = [(position, node) for position, leg in enumerate(legs) for node in leg.nodes]
        self.node_names = [(position, node.part, node.side) for position, node in self.nodes]
        many = len(self.nodes)
        # Of each node the list of the nodes to which arrows lead from it, nodes being told by COUNTS here.
        self.later = [[far for far in range(many) if self._has_arrow(near, far)] for near in range(many)]

    def _has_arrow(self, near, far):
        (one, node), (other, behind) = self.nodes[near], self.nodes[far]
        if one == other:
            return far == near + 1
        return node.leads_to(behind)

    def arrows(self):
        """The sorted list of the arrows."""
        names = self.node_names
        return [(names[near], names[far]) for near, behind in enumerate(self.later) for far in behind]

    def order(self):
        """The list of the nodes such that each arrow leads onwards, but for those behind or within rings."""
        ahead = [0 for _ in self.nodes]
        for behind in self.later:
            for far in behind:
                ahead[far] += 1
        ready = [at for at, many in enumerate(ahead) if many == 0]
        told = []
        while len(ready) > 0:
            near = ready.pop(0)
            told.append(near)
            for far in self.later[near]:
                ahead[far] -= 1
                if ahead[far] == 0:
                    ready.append(far)
        return [self.node_names[at] for at in told]

    def is_ringless(self):
        """Whether the arrows have no ring."""
        return len(self.order()) == len(self.nodes)

    def ring(self):
        """A ring of the arrows, which have one."""
        told = self.order()
        left = [at for at, name in enumerate(self.node_names) if name not in told]
        # Each node that is left has one of them ahead of it, so going back comes round.
        walk = [left[0]]
        while walk.count(walk[-1]) == 1:
            walk.append([at for at in left if walk[-1] in self.later[at]][0])
        begin = walk.index(walk[-1])
        return [self.node_names[at] for at in walk[begin + 1:][::-1]]


def turned(read):
    """Of words, each told by the list of its legs, the list of the lists of each leg of all of them."""
    return [[legs[leg] for legs in read] for leg in range(len(read[0]))]


def do_agree(read):
    """Whether words agree, each told by the list of its legs."""
    return all([first_shared(legs) is None and Tangle(legs).is_ringless() for legs in turned(read)])
