"""What is left of the atoms' rows when those that cannot take part have gone."""

from joinplans.atoms import agree, fitting_rows


def has_partner(fitting, others):
    return any([agree(fitting.bound, other.bound) for other in others])


def stays(fitting, atom, kept):
    return all([other == atom or has_partner(fitting, kept[other]) for other in range(len(kept))])


def staying_rows(atom, kept):
    return [fitting for fitting in kept[atom] if stays(fitting, atom, kept)]


def throw_out(kept):
    return [staying_rows(atom, kept) for atom in range(len(kept))]


def how_many_rows(kept):
    return sum([len(rows) for rows in kept])


# A row that goes may take others with it, so this goes on till a round throws out none.
def rows_left(atoms):
    kept = [fitting_rows(atom) for atom in atoms]
    fewer = throw_out(kept)
    while how_many_rows(fewer) < how_many_rows(kept):
        kept = fewer
        fewer = throw_out(kept)
    return kept
