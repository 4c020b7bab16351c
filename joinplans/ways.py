"""Ways of some atoms: counted, and told by the values of the variables that are asked for."""

from joinplans.atoms import fitting_rows, variables_of


# Of an atom's rows only the values of its variables matter to a way: they tell the row.
class Part:
    def __init__(self, variables, rows):
        self.variables = variables
        self.rows = rows


# Ways with the same values of the variables that still matter are one group, so that ways are counted
# without being gone through.
class Groups:
    def __init__(self, variables, sizes):
        self.variables = variables
        self.sizes = sizes


def pick(source, places):
    return tuple([source[place] for place in places])


def part_of(atom):
    variables = list(variables_of(atom))
    return Part(variables, [pick(fitting.bound, variables) for fitting in fitting_rows(atom)])


def parts_of(atoms):
    return [part_of(atom) for atom in atoms]


def places_of(variables, among):
    return [among.index(variable) for variable in variables]


def rows_by(part, variables):
    places = places_of(variables, part.variables)
    found = {}
    for row in part.rows:
        found.setdefault(pick(row, places), []).append(row)
    return found


def joined_with(groups, part, wanted):
    shared = [variable for variable in groups.variables if variable in part.variables]
    shared_places = places_of(shared, groups.variables)
    partners = rows_by(part, shared)
    names = groups.variables + part.variables
    kept = [variable for variable in wanted if variable in names]
    kept_places = places_of(kept, names)
    grown = {}
    for group, size in groups.sizes.items():
        for row in partners.get(pick(group, shared_places), []):
            wider = pick(group + row, kept_places)
            grown[wider] = grown.get(wider, 0) + size
    return Groups(kept, grown)


# A variable still matters if it is asked for, or if a part that comes behind has it. Those asked for stand
# first: when no part is behind, the groups are told by them alone, in their order.
def still_wanted(asked, behind):
    wanted = {}
    for variable in asked:
        wanted[variable] = True
    for part in behind:
        for variable in part.variables:
            wanted[variable] = True
    return list(wanted)


# Of no part there is one way, which has no values.
def group_ways(parts, asked):
    groups = Groups([], {(): 1})
    for following, part in enumerate(parts, start=1):
        groups = joined_with(groups, part, still_wanted(asked, parts[following:]))
    return groups


def count_ways(parts):
    return sum(group_ways(parts, []).sizes.values())
