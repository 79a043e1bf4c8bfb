"""Trees of plans: how it goes on depends on the values of told names."""

from quietsums.books import leak_of, require_book
from quietsums.checks import is_integer, is_known, is_list, is_tuple_of, require_group, require_numbers
from quietsums.errors import Contradiction, InvalidNode, InvalidStep, InvalidWay, TooMany
from quietsums.groups import listening
from quietsums.plans import Plan
from quietsums.spaces import Relations, Space
from quietsums.sums import Sum
from quietsums.watches import learned

MOST_NODES = 40
MOST_BELOW = 4


class Tree:
    """A modulus, hands, and a first node: steps, a told name, and what follows each of its values. It never changes."""

    def __init__(self, modulus, hands, node):
        root = Plan(modulus, hands, [])
        grown = Growth(modulus)
        self._node = grown.copied(root, (), (), node)
        if grown.many() > MOST_NODES:
            raise TooMany(MOST_NODES)
        self._modulus = modulus
        self._hands = list(hands)
        self._plans = grown.plans()
        self._turns = grown.turns()

    @property
    def modulus(self):
        """The modulus."""
        return self._modulus

    def hands(self):
        """Return the list of the hands, in the sequence in which they were passed."""
        return list(self._hands)

    def ways(self):
        """Yield all ways, sorted."""
        for way in self._plans:
            yield way

    def plan(self, way):
        """Return the plan of a way."""
        self._require_way(way)
        return self._plans[way]

    def turns(self, way):
        """Return the list of the tuples of a name that decides on a way, and the number that it has to have."""
        return list(zip(self._turns[way], way))

    def own_names(self):
        """Return the sorted list of the private numbers of all plans."""
        return sorted({name for plan in self._plans.values() for name in plan.own_names()})

    def _require_way(self, way):
        # True is no 1, although they are equal as keys.
        if not isinstance(way, tuple) or not all([is_integer(number) for number in way]) or way not in self._plans:
            raise InvalidWay(way)

    def __eq__(self, other):
        return (isinstance(other, Tree) and self._modulus == other._modulus
                and self._hands == other._hands and self._node == other._node)


class Growth:
    """Goes over the nodes of a tree, and collects the plans and the names that decide, by ways."""

    def __init__(self, modulus):
        self._modulus = modulus
        self._many = 0
        self._ends = {}
        self._deciders = {}

    def many(self):
        """Return the number of nodes."""
        return self._many

    def plans(self):
        """Return a dict from the ways, sorted, to their plans."""
        return dict(self._ends)

    def turns(self):
        """Return a dict from the ways, sorted, to the tuples of the names that decide."""
        return dict(self._deciders)

    def copied(self, plan, names, path, node):
        """Return a copy of a node below a plan, after names that decided, or raise an error unless it is one."""
        if not _is_shaped(node) or len(path) >= MOST_BELOW:
            raise InvalidNode(path)
        longer = _continued(plan, node[0])
        if longer is None:
            raise InvalidNode(path)
        self._many += 1
        if len(node) == 1:
            return self._ended(longer, names, path, (list(node[0]),))
        if not self._can_turn(longer, node):
            raise InvalidNode(path)
        further = []
        for number, below in enumerate(node[2]):
            at = path + (number,)
            if below is None:
                further.append(self._ended(longer, names + (node[1],), at, None))
            else:
                further.append(self.copied(longer, names + (node[1],), at, below))
        return list(node[0]), node[1], further

    def _can_turn(self, plan, node):
        return is_known(node[1], plan.told_names()) and is_list(node[2]) and len(node[2]) == self._modulus

    def _ended(self, plan, names, way, copy):
        """Keep what belongs to a way that ends here, and return the copy of what ends it."""
        self._ends[way] = plan
        self._deciders[way] = names
        return copy


def depth(tree, way, numbers):
    """Return how often a way divides by the modulus how likely it is, or None if it is not possible."""
    plan = tree.plan(way)
    require_numbers(tree.modulus, plan.own_names(), numbers)
    if not _is_possible(tree, way, plan, numbers):
        return None
    space = Space(tree.modulus, [plan.meaning(name) for name, _ in tree.turns(way)])
    return space.dimension - space.without(plan.drawn_names()).dimension


def learned_on(tree, way, group):
    """Return the space of the sums of private numbers that a group learns on a way."""
    plan = tree.plan(way)
    return learned(plan, listening(plan, group))


def parting_way(tree, group, numbers, others):
    """Return the first way possible for some numbers on which a group learns that they are not others, or None."""
    require_group(group, tree.hands())
    private = tree.own_names()
    require_numbers(tree.modulus, private, numbers)
    require_numbers(tree.modulus, private, others)
    for way in tree.ways():
        plan = tree.plan(way)
        basis = learned(plan, listening(plan, group)).basis()
        if _is_possible(tree, way, plan, numbers) and any([total.at(numbers) != total.at(others) for total in basis]):
            return way
    return None


def tree_leak(tree, book):
    """Return the first possible way on which a group of a book learns more than it may, with the leak, or None."""
    require_book(tree.modulus, tree.hands(), tree.own_names(), book)
    for way in tree.ways():
        plan = tree.plan(way)
        leak = leak_of(plan, book)
        if leak is not None and _is_possible(tree, way, plan, {}):
            return way, leak[0], leak[1]
    return None


def _is_shaped(node):
    return is_tuple_of(node, 1) or is_tuple_of(node, 3)


def _continued(plan, steps):
    """Return the plan with further steps, or None if they are no list of steps that may follow."""
    if not is_list(steps):
        return None
    try:
        return plan.extended(*steps)
    except InvalidStep:
        return None


def _is_possible(tree, way, plan, numbers):
    """Tell whether in some world with these private numbers the names that decide have the numbers of the way."""
    fixed = {name: Sum(tree.modulus, {}, numbers[name]) for name in plan.own_names() if name in numbers}
    excess = []
    for name, number in tree.turns(way):
        excess.append(plan.meaning(name).put(fixed) - Sum(tree.modulus, {}, number))
    try:
        Relations(tree.modulus, excess)
    except Contradiction:
        return False
    return True
