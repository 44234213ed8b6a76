"""Templates for the families of a term, found from those of its parts, the least ones first.

The ways of a term are a dict from families to plans of templates. A plan tells how many makers
and holes its template has, without writing it out: most plans are not used in the end.
"""

from casefamilies.signatures import maker_variables
from casefamilies.states import States, breaches
from casefamilies.terms import substituted


class Hole:
    """The plan that is a hole alone."""

    def __init__(self, hole):
        self.hole = hole
        self.makers = 0
        self.holes = {hole: 1}
        self.cost = 1

    def written(self, parts):
        """Return the template, with parts in the place of holes."""
        return parts.get(self.hole, self.hole)


class Dish:
    """The plan of a recipe with plans for all of its holes."""

    def __init__(self, recipe, parts):
        rows = [(many, parts[hole]) for hole, many in recipe.holes.items()]
        self.recipe = recipe
        self.parts = parts
        self.makers = recipe.makers + sum([many * part.makers for many, part in rows])
        self.holes = all_holes(rows)
        self.cost = self.makers + sum(self.holes.values())

    def written(self, parts):
        """Return the template, with parts in the place of holes."""
        return self.recipe.written({hole: part.written(parts) for hole, part in self.parts.items()})


class Recipe:
    """A rule whose template is a maker with plans for its arguments."""

    def __init__(self, maker, plans):
        self.family = maker[1]
        self.word = maker[2][0]
        self.name = maker[0]
        self.plans = plans
        self.makers = 1 + sum([plan.makers for plan in plans])
        self.holes = all_holes([(1, plan) for plan in plans])
        self.cost = self.makers + sum(self.holes.values())

    def written(self, parts):
        """Return the template, with parts in the place of holes."""
        return (self.name, *[plan.written(parts) for plan in self.plans])

    def rule(self):
        """Return the rule itself."""
        return (self.family, self.word, self.written({}))


def all_holes(rows):
    """Return how often each hole occurs in plans, each of which is taken a number of times."""
    found = {}
    for many, plan in rows:
        for hole, times in plan.holes.items():
            found[hole] = found.get(hole, 0) + many * times
    return found


def ways_after(recipes, below):
    """Return the ways of a word, of which the recipes and the ways of the parts are given."""
    chosen = {}
    for recipe in recipes:
        if all([family in below[k] for k, family in recipe.holes]):
            rows = [(many, below[hole[0]][hole[1]].cost) for hole, many in recipe.holes.items()]
            cost = recipe.makers + sum([many * each for many, each in rows])
            if recipe.family not in chosen or cost < chosen[recipe.family][0]:
                chosen[recipe.family] = (cost, recipe)
    return {family: dish(recipe, below) for family, (cost, recipe) in chosen.items()}


def dish(recipe, below):
    """Return the plan of a recipe, where the ways of the parts are given."""
    return Dish(recipe, {(k, family): below[k][family] for k, family in recipe.holes})


def ways_at(recipes, term, given):
    """Return the ways of a term, where those of its variables are given by their numbers."""
    if type(term) is int:
        return given[term]
    return ways_after(recipes[term[0]], [ways_at(recipes, part, given) for part in term[1:]])


def opened(maker, word, arity):
    """Return a maker with a variable as its head, for the terms that begin with a word."""
    names = {0: (word,) + tuple(range(arity))}
    for variable in maker_variables(maker)[1:]:
        names[variable] = variable - 1 + arity
    arguments = tuple([(family, substituted(index, names)) for family, index in maker[3]])
    return (maker[0], maker[1], names[0], arguments)


def clauses_of(signature):
    """Return the makers, where a variable as a head is replaced by each constructor."""
    found = [maker for maker in signature[2] if type(maker[2]) is tuple]
    for maker in [maker for maker in signature[2] if type(maker[2]) is int]:
        found.extend([opened(maker, word, arity) for word, arity in signature[0]])
    return found


class Kitchen:
    """Recipes by which all families of all closed terms have values.

    The witnesses are the ways of a closed term for each state. The parts of a word only promise
    families that closed terms are known to have already: so no recipe waits for itself.
    """

    def __init__(self, signature):
        self.clauses = clauses_of(signature)
        self.states = States(signature)
        self.recipes = {word: [] for word, arity in signature[0]}
        self.witnesses = {}
        self.settle()
        found = self.offers()
        while found:
            least = min([recipe.cost for recipe in found])
            for recipe in found:
                if recipe.cost == least:
                    self.accept(recipe)
            self.settle()
            found = self.offers()

    def settle(self):
        """Work out the states again, and witnesses for them that are as cheap as can be."""
        self.states.reach()
        changed = True
        while changed:
            changed = False
            for row, mask in self.states.table.items():
                below = [self.witnesses[part] for part in row[1:]]
                ways = ways_after(self.recipes[row[0]], below)
                if mask not in self.witnesses or total(ways) < total(self.witnesses[mask]):
                    self.witnesses[mask] = ways
                    changed = True

    def offers(self):
        """Return recipes for what makers make beyond the states, the cheapest one among them."""
        masks = self.states.masks
        further = [mask for mask in masks if not self.is_needless(mask)]
        found = []
        for maker in self.clauses:
            own = len(maker[2]) - 1
            pools = [masks] * own + [further] * (len(maker_variables(maker)) - own)
            rows = breaches(maker, pools, self.states.table, self.states.members)
            found.extend([self.offer(maker, own, given) for given in rows])
        return found

    def is_needless(self, mask):
        """Return True if the witness of another state is as good and has more families."""
        ways = self.witnesses[mask]
        for other in self.states.masks:
            if other != mask and other & mask == mask:
                better = self.witnesses[other]
                if all([better[family].cost <= way.cost for family, way in ways.items()]):
                    return True
        return False

    def offer(self, maker, own, given):
        """Return the recipe of a maker for states of its variables, the first of which are own."""
        ways = [self.hole_ways(k, mask) for k, mask in enumerate(given[:own])]
        ways.extend([self.witnesses[mask] for mask in given[own:]])
        return Recipe(maker, [ways_at(self.recipes, index, ways)[family] for family, index in maker[3]])

    def row_ways(self, row):
        """Return the ways of a row of the table, with holes for its parts."""
        below = [self.hole_ways(k, mask) for k, mask in enumerate(row[1:])]
        return ways_after(self.recipes[row[0]], below)

    def hole_ways(self, k, mask):
        """Return the ways of a part of which only the state is known."""
        return {family: Hole((k, family)) for family in self.states.profile_of(mask)}

    def accept(self, recipe):
        """Take a recipe, if no other one does the same with less."""
        needed = self.needed(recipe)
        bit = self.states.bit(recipe.family)
        if self.states.mask_after(recipe.word, needed) & bit == 0:
            self.recipes[recipe.word].append(recipe)
            self.states.record(recipe.word, needed, bit)

    def needed(self, recipe):
        """Return the states that the parts of the word need at least."""
        arity = dict(self.states.constructors)[recipe.word]
        masks = [0] * arity
        for k, family in recipe.holes:
            masks[k] = masks[k] | self.states.bit(family)
        return tuple(masks)


def total(ways):
    """Return the cost of all ways."""
    return sum([way.cost for way in ways.values()])
