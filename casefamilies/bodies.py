"""Papers that tell that the body of a clause has the index that it should have (part 12)."""

from casefamilies.fits import fit_function
from casefamilies.programs import function_of
from casefamilies.terms import is_term, shifted, substituted, variables, variables_in
from casefamilies.unify import unifier


class Task:
    """What the body of a clause must be: the wanted index, and the indices of the variables of the patterns.

    The entries are a dict from the names of makers and functions to the numbers of their variables,
    the indices of their results and the tuples of those of their arguments.
    """

    def __init__(self, program, function, found):
        terms, rows = found
        self.wanted = substituted(function[2][1], {variable: term for variable, term in enumerate(terms)})
        self.rows = {variable: index for variable, family, index in rows}
        self.entries = entries_of(program)
        self.constructors = program[0][0]


def entries_of(program):
    """Return the dict of the makers and functions of a program for a task."""
    heads = [(word, head, arguments) for word, family, head, arguments in program[0][2]]
    heads.extend([(word, result[1], arguments) for word, arguments, result, clauses in program[1]])
    entries = {}
    for word, head, arguments in heads:
        indices = tuple([index for family, index in arguments])
        entries[word] = (len(variables_in((head, *indices))), head, indices)
    return entries


def task_of(program, word, k):
    """Return the task of a clause, or None if its patterns do not fit."""
    function = function_of(program, word)
    found = fit_function(program[0], function, function[3][k][0])
    return None if found is None else Task(program, function, found)


def body_paper(program, word, k):
    """Return a right body paper for the clause k of a function, or None."""
    task = task_of(program, word, k)
    if task is None:
        return None
    equations = []
    plan, far = planned(task, function_of(program, word)[3][k][1], frozen(task.wanted), 0, equations)
    found = unifier(equations)
    if found is None:
        return None
    leaf = [(name,) for name, arity in task.constructors if arity == 0][0]
    return written(plan, [thawed(substituted(unknown, found), leaf) for unknown in range(far)])


def planned(task, expression, wanted, far, equations):
    """Return a plan for the paper of an expression, and the number behind its unknown indices.

    The indices of makers and calls are unknown first, and numbered from far on; what must hold for
    them is put into the list of equations. A plan is a variable, or a word, the number of its
    indices, the first of these, and a list of plans.
    """
    if type(expression) is str:
        equations.append((wanted, frozen(task.rows[expression])))
        return expression, far
    many, head, indices = task.entries[expression[0]]
    equations.append((wanted, shifted(head, far)))
    first = far
    far += many
    plans = []
    for part, index in zip(expression[1:], indices):
        plan, far = planned(task, part, shifted(index, first), far, equations)
        plans.append(plan)
    return (expression[0], many, first, plans), far


def written(plan, terms):
    """Return the paper of a plan, where all indices are known."""
    if type(plan) is str:
        return plan
    word, many, first, plans = plan
    return (word, tuple(terms[first:first + many]), tuple([written(part, terms) for part in plans]))


def frozen(term):
    """Return a term with a constant for each variable, so that nothing is put in its place."""
    # No word of a constructor is a number: the constants are new.
    return substituted(term, {variable: (str(variable),) for variable in variables(term)})


def thawed(term, leaf):
    """Return a term with variables for the constants, and a leaf for what is still unknown."""
    if type(term) is int:
        return leaf
    if term[0].isdigit():
        return int(term[0])
    return (term[0], *[thawed(part, leaf) for part in term[1:]])


def check_body(program, word, k, value):
    """Return True if a value is a right body paper for the clause k of a function."""
    task = task_of(program, word, k)
    if task is None:
        return False
    waiting = [(function_of(program, word)[3][k][1], task.wanted, value)]
    while waiting:
        expression, wanted, shown = waiting.pop()
        if type(expression) is str:
            if type(shown) is not str or shown != expression or task.rows[expression] != wanted:
                return False
        else:
            below = papers_below(task, expression, wanted, shown)
            if below is None:
                return False
            waiting.extend(below)
    return True


def papers_below(task, expression, wanted, value):
    """Return the parts of an expression, each with its index and its paper, or None if the top is wrong."""
    if type(value) is not tuple or len(value) != 3:
        return None
    word, terms, parts = value
    many, head, indices = task.entries[expression[0]]
    if type(word) is not str or word != expression[0] or type(terms) is not tuple or len(terms) != many:
        return None
    if type(parts) is not tuple or len(parts) != len(indices):
        return None
    if not all([is_term(task.constructors, term) for term in terms]):
        return None
    chosen = {variable: term for variable, term in enumerate(terms)}
    if substituted(head, chosen) != wanted:
        return None
    return list(zip(expression[1:], [substituted(index, chosen) for index in indices], parts))


def clause_fault(program, word, k):
    """Return what is wrong with the clause k of a function: its patterns, its body, or nothing."""
    if task_of(program, word, k) is None:
        return "patterns"
    return "body" if body_paper(program, word, k) is None else ""


def faults(program):
    """Return the clauses that are not right, each with what is wrong."""
    clauses = [(function[0], k) for function in program[1] for k in range(len(function[3]))]
    found = [(word, k, clause_fault(program, word, k)) for word, k in clauses]
    return [row for row in found if row[2] != ""]
