"""Which atoms are taken off a question, on what each hangs, and which are left."""

from joinplans.atoms import variables_of


class Hanging:
    def __init__(self, taken, standing):
        self.taken = taken
        self.standing = standing


def is_shared(variable, atom, variables, standing):
    return any([other != atom and variable in variables[other] for other in standing])


def find_holder(atom, variables, standing):
    shared = [variable for variable in variables[atom] if is_shared(variable, atom, variables, standing)]
    for other in standing:
        if other != atom and all([variable in variables[other] for variable in shared]):
            return other
    return None


def find_pair(variables, standing):
    for atom in standing:
        holder = find_holder(atom, variables, standing)
        if holder is not None:
            return (atom, holder)
    return None


# One atom alone has no other to hang on, so the last one is never taken off.
def take_off(atoms):
    variables = [variables_of(atom) for atom in atoms]
    standing = list(range(len(atoms)))
    taken = []
    pair = find_pair(variables, standing)
    while pair is not None:
        taken.append(pair)
        standing.remove(pair[0])
        pair = find_pair(variables, standing)
    return Hanging(taken, standing)
