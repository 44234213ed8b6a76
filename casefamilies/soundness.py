"""Programs whose calls all end with values of the types that are told (point 14.4)."""

from casefamilies.bodies import faults
from casefamilies.covers import is_covered
from casefamilies.descent import all_fall


def is_sound(program):
    """Return True if all clauses are right, all functions are covered, and the calls fall."""
    if faults(program) or not all_fall(program):
        return False
    return all([is_covered(program, function[0]) for function in program[1]])
