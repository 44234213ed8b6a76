"""A console for a workbook: lines with commands, and lists of texts as results (point 18.4)."""

from casefamilies.counting import count_values
from casefamilies.errors import BadFunction, BadMaker, BadQuestion, BadText, Full, InUse, NothingToUndo, Taken
from casefamilies.errors import Unknown
from casefamilies.evaluation import run
from casefamilies.lines import expression_at, finished, named_at, number_at, read_clause, read_function, read_maker
from casefamilies.lines import skipped, type_at, word_at
from casefamilies.profiles import profile
from casefamilies.programs import all_shapes, function_of, variable_rows
from casefamilies.signatures import is_goal
from casefamilies.soundness import is_sound
from casefamilies.terms import is_closed_term, term_at
from casefamilies.texts import read_goal, write_expression, write_program
from casefamilies.workbook import Workbook

MOST_WEIGHT = 6
MOST_STEPS = 60


class Console:
    """A workbook that takes its deeds and questions as lines."""

    def __init__(self, program):
        self.book = Workbook(program)

    def enter(self, line):
        """Do what a line says, and return the list of the texts of the result."""
        try:
            return done(self.book, line)
        except BadText:
            return ["error BadText"]
        except Unknown:
            return ["error Unknown"]
        except BadMaker:
            return ["error BadMaker"]
        except BadFunction:
            return ["error BadFunction"]
        except BadQuestion:
            return ["error BadQuestion"]
        except InUse:
            return ["error InUse"]
        except Taken:
            return ["error Taken"]
        except Full:
            return ["error Full"]
        except NothingToUndo:
            return ["error NothingToUndo"]


def done(book, line):
    """Do what a line says with a workbook, and return the list of the texts of the result."""
    command = COMMANDS.get(line.partition(" ")[0])
    if command is None:
        raise BadText("there is no such command")
    return command(book, line)


def only_word(line, command):
    """Return the word that is all that stands behind a command."""
    word, end = word_at(line, skipped(line, 0, command + " "))
    finished(line, end)
    return word


def last_number(line, start, most):
    """Return the number, not greater than a bound, that stands behind a blank at the end of a line."""
    number, end = number_at(line, skipped(line, start, " "))
    finished(line, end)
    if number > most:
        raise BadText("the number is too great")
    return number


def enter_maker(book, line):
    """Add the maker of a line."""
    return [" ".join(["ok", *book.add_maker(read_maker(line))])]


def enter_drop(book, line):
    """Take a maker away."""
    return [" ".join(["ok", *book.drop_maker(only_word(line, "drop"))])]


def enter_function(book, line):
    """Set the function of a line, without clauses."""
    book.set_function(read_function(line))
    return ["ok"]


def enter_clause(book, line):
    """Put the clause of a line behind those of its function."""
    word, clause = read_clause(line)
    name, arguments, result, clauses = function_of(book.program(), word)
    book.set_function((name, arguments, result, (*clauses, clause)))
    return ["ok"]


def enter_remove(book, line):
    """Take a function away."""
    book.drop_function(only_word(line, "remove"))
    return ["ok"]


def enter_question(book, line):
    """Add a question."""
    word, end = named_at(line, skipped(line, 0, "ask "))
    book.ask(word, read_goal(book.program()[0], line[end:]))
    return ["ok"]


def enter_forget(book, line):
    """Take a question away."""
    book.forget(only_word(line, "forget"))
    return ["ok"]


def show_state(book, line):
    """Return the first word of the answer to a question."""
    return [book.answer_to(only_word(line, "state"))[0]]


def show_cover(book, line):
    """Return the first word of the cover paper of a function."""
    return [book.cover_of(only_word(line, "cover"))[0]]


def show_profile(book, line):
    """Return the families of the profile of a closed term."""
    signature = book.program()[0]
    term, end = term_at(line, skipped(line, 0, "profile "))
    finished(line, end)
    if not is_closed_term(signature[0], term):
        raise BadText("this is not the text of a closed term")
    return [" ".join(profile(signature, term)) or "none"]


def show_count(book, line):
    """Return the number of the values of a weight that fit a type."""
    signature = book.program()[0]
    part, end = type_at(line, skipped(line, 0, "count "))
    weight = last_number(line, end, MOST_WEIGHT)
    if not is_goal(signature, (part,)):
        raise BadText("this is not the text of a type over the signature")
    return [str(count_values(signature, part[0], part[1], weight))]


def show_run(book, line):
    """Return what comes first in the evaluation of an expression."""
    expression, end = expression_at(line, skipped(line, 0, "run "))
    most = last_number(line, end, MOST_STEPS)
    if not is_closed_expression(book.program(), expression, len(line)):
        raise BadText("this is not the text of a closed expression over the program")
    found = run(book.program(), expression, most)
    if found[0] == "value":
        return [" ".join(["value", write_expression(found[1]), str(found[2])])]
    if found[0] == "stuck":
        return ["stuck " + write_expression((found[1], *found[2]))]
    return ["more"]


def is_closed_expression(program, expression, most):
    """Return True if a variable or nested tuple of words is a closed expression with at most a height."""
    shapes = all_shapes(program)
    if type(expression) is str or expression[0] not in shapes:
        return False
    return variable_rows(shapes, [(shapes[expression[0]][0], expression, most)]) == []


def show_sound(book, line):
    """Return whether the program is sound."""
    finished(line, len("sound"))
    return ["yes" if is_sound(book.program()) else "no"]


def show_lines(book, line):
    """Return the lines of the text of the program."""
    finished(line, len("show"))
    return write_program(book.program()).split("\n")


def enter_undo(book, line):
    """Take the last deed back."""
    finished(line, len("undo"))
    book.undo()
    return ["ok"]


COMMANDS = {
    "maker": enter_maker, "drop": enter_drop, "function": enter_function, "clause": enter_clause,
    "remove": enter_remove, "ask": enter_question, "forget": enter_forget, "state": show_state, "cover": show_cover,
    "profile": show_profile, "count": show_count, "run": show_run, "sound": show_sound, "show": show_lines,
    "undo": enter_undo}
