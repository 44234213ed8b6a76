"""Tables of states for the constructors, and the profiles of closed terms as states.

A table has for each word of a constructor and each choice of states for its parts the state of
the term, under the key (word, state, ..). Members are a dict with a key (family, state) for each
state that stands for values of the family.
"""

from casefamilies.signatures import maker_variables
from casefamilies.terms import variables


def tuples_of(choices, many):
    """Return all tuples of so many of the choices."""
    found = [()]
    for _ in range(many):
        found = [(*start, choice) for start in found for choice in choices]
    return found


def state_at(table, term, given):
    """Return the state of a term, where those of its variables are given by their numbers."""
    if type(term) is int:
        return given[term]
    row = (term[0], *[state_at(table, part, given) for part in term[1:]])
    return table[row]


def breaches(maker, pools, table, members):
    """Return the choices of states at which a maker has its arguments but not its own value."""
    tests = [(family, index, True) for family, index in maker[3]] + [(maker[1], maker[2], False)]
    return choices_that_fit(tests, pools, table, members)


def choices_that_fit(tests, pools, table, members):
    """Return the choices of states at which tests come out as they should.

    A test is a tuple of a family, an index, and True or False: whether the state of the index is to
    have the family. The pools are lists of the states that are tried for the variables 0, 1, 2, ..
    """
    found = [()]
    for level in range(len(pools) + 1):
        # A type is asked as soon as all its variables have states: most choices end early.
        due = [test for test in tests if max(variables(test[1]), default=-1) + 1 == level]
        if level > 0:
            found = [(*start, state) for start in found for state in pools[level - 1]]
        for family, index, wanted in due:
            found = [given for given in found
                     if ((family, state_at(table, index, given)) in members) == wanted]
    return found


class States:
    """Families of closed terms, as far as records tell that a word has a family after others.

    A state is a number whose bits stand for the families in ascending order. A record of a word
    is a pair of the states that its parts need at least, and a bit.
    """

    def __init__(self, signature):
        self.constructors = signature[0]
        self.families = sorted(signature[1])
        self.records = {word: [] for word, arity in signature[0]}
        self.table = {}
        self.masks = []
        self.members = {}

    def bit(self, family):
        """Return the bit of a family."""
        return 1 << self.families.index(family)

    def profile_of(self, mask):
        """Return the ascending tuple of the families of a state."""
        return tuple([family for k, family in enumerate(self.families) if mask >> k & 1])

    def mask_after(self, word, parts):
        """Return the state of a word whose parts have states."""
        mask = 0
        for needed, bit in self.records[word]:
            if mask & bit == 0 and is_within(needed, parts):
                mask = mask | bit
        return mask

    def record(self, word, needed, bit):
        """Keep that a word has a bit if its parts have what is needed."""
        for lesser, other in self.records[word]:
            if other == bit and is_within(lesser, needed):
                return
        kept = [row for row in self.records[word] if row[1] != bit or not is_within(needed, row[0])]
        self.records[word] = kept + [(needed, bit)]

    def reach(self):
        """Work out all states of closed terms again, each row after those that its parts need."""
        self.table = {}
        self.masks = []
        many = -1
        while many < len(self.masks):
            many = len(self.masks)
            for word, arity in self.constructors:
                for parts in tuples_of(list(self.masks), arity):
                    self.fill(word, parts)
        families = list(enumerate(self.families))
        self.members = {(family, mask): True
                        for mask in self.masks for k, family in families if mask >> k & 1}

    def fill(self, word, parts):
        """Enter the row of a word and the states of its parts, if it is new."""
        row = (word, *parts)
        if row not in self.table:
            mask = self.mask_after(word, parts)
            self.table[row] = mask
            if mask not in self.masks:
                self.masks.append(mask)

    def gain(self, maker):
        """Record what a maker makes beyond the table."""
        head = maker[2]
        bit = self.bit(maker[1])
        own = 1 if type(head) is int else len(head) - 1
        # More families never forbid a value: for variables outside the head the greatest do.
        pools = [self.masks] * own + [maximal(self.masks)] * (len(maker_variables(maker)) - own)
        for given in breaches(maker, pools, self.table, self.members):
            if type(head) is tuple:
                self.record(head[0], given[:own], bit)
            else:
                for row in [row for row, mask in self.table.items() if mask == given[0]]:
                    self.record(row[0], row[1:], bit)


def is_within(needed, parts):
    """Return True if each state has the bits that are needed at its place."""
    return all([mask & part == mask for mask, part in zip(needed, parts)])


def maximal(masks):
    """Return the states whose bits are not all in another one."""
    return [mask for mask in masks if not any([mask != more and mask & more == mask for more in masks])]


def least_states(signature):
    """Return the states that are the profiles of the closed terms."""
    states = States(signature)
    states.reach()
    before = {}
    while before != states.table:
        before = states.table
        for maker in signature[2]:
            states.gain(maker)
        states.reach()
    return states
