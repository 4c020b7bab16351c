"""What orders and plans cost, and which of them cost least."""

from joinplans.ways import count_ways, parts_of

JOINING = -1


# Many orders and plans hold the same atoms on their way, so each such choice of atoms is counted once.
class WayCounts:
    def __init__(self, atoms):
        self.parts = parts_of(atoms)
        self.known = {}

    def ways_of(self, numbers):
        some = tuple(sorted(numbers))
        if some not in self.known:
            self.known[some] = count_ways([self.parts[number] for number in some])
        return self.known[some]


# The steps stand as they are told: an atom's number, or the steps of two plans and JOINING.
class Plan:
    def __init__(self, cost, steps):
        self.cost = cost
        self.steps = steps


def is_order(numbers, atoms):
    return sorted(numbers) == list(range(len(atoms)))


def order_cost(counts, order):
    return sum([counts.ways_of(order[:length]) for length in range(2, len(order) + 1)])


def lengthened(orders, how_many):
    longer = []
    for order in orders:
        longer.extend([order + (atom,) for atom in range(how_many) if atom not in order])
    return longer


# Each order is lengthened by the lesser atoms first, so the earlier orders stand ahead of the later ones.
def all_orders(how_many):
    orders = [()]
    while len(orders[0]) < how_many:
        orders = lengthened(orders, how_many)
    return orders


# Of several that cost the same min takes the first one, which is the earliest.
def cheapest_order(counts):
    return min(all_orders(len(counts.parts)), key=lambda order: order_cost(counts, order))


def widened(sides, some):
    wider = []
    for side in sides:
        wider.extend([side + (atom,) for atom in some if atom > side[-1]])
    return wider


# Sides with fewer atoms come first; each is widened by the lesser atoms first, so those with as many atoms
# go by the first number in which they differ.
def first_sides(some):
    found = []
    sides = [some[:1]]
    while len(sides[0]) < len(some):
        found.extend(sides)
        sides = widened(sides, some)
    return found


def joined_plan(counts, some, side):
    first = plan_of(counts, side)
    second = plan_of(counts, tuple([atom for atom in some if atom not in side]))
    cost = first.cost + second.cost + counts.ways_of(some)
    return Plan(cost, first.steps + second.steps + [JOINING])


# Each side has fewer atoms than the whole, so this nests no deeper than there are atoms. Of several plans
# that cost the same min takes the first one.
def plan_of(counts, some):
    if len(some) == 1:
        return Plan(0, list(some))
    plans = [joined_plan(counts, some, side) for side in first_sides(some)]
    return min(plans, key=lambda plan: plan.cost)


def cheapest_plan(counts):
    return plan_of(counts, tuple(range(len(counts.parts))))
