"""Texts of goals, expressions and programs, written and read (points 18.1 to 18.3)."""

from casefamilies.errors import BadText
from casefamilies.lines import expression_at, finished, read_clause, read_constructor, read_family, read_function
from casefamilies.lines import read_maker, types_at
from casefamilies.programs import is_program
from casefamilies.signatures import is_goal
from casefamilies.terms import write_term

NO_TYPES = "none"


def write_goal(goal):
    """Return the text of a goal."""
    return ", ".join([write_type(part) for part in goal]) if goal else NO_TYPES


def write_type(part):
    """Return the text of a type."""
    return part[0] + "(" + write_term(part[1]) + ")"


def read_goal(signature, text):
    """Return the goal over a signature that has a text."""
    if text == NO_TYPES:
        return ()
    goal, end = types_at(text, 0)
    finished(text, end)
    if not is_goal(signature, goal):
        raise BadText("this is not the text of a goal over the signature")
    return goal


def write_expression(expression):
    """Return the text of a value, a pattern or an expression."""
    if type(expression) is str:
        return expression
    return expression[0] + "(" + ",".join([write_expression(part) for part in expression[1:]]) + ")"


def read_expression(text):
    """Return the variable or the nested tuple of words that has a text."""
    expression, end = expression_at(text, 0)
    finished(text, end)
    return expression


def write_program(program):
    """Return the text of a program."""
    signature, functions = program
    lines = [f"index {word} {arity}" for word, arity in signature[0]]
    lines.extend(["family " + family for family in signature[1]])
    lines.extend([maker_line(maker) for maker in signature[2]])
    for word, arguments, result, clauses in functions:
        lines.append("function " + word + " : " + write_goal(arguments) + " to " + write_type(result))
        lines.extend([clause_line(word, clause) for clause in clauses])
    return "\n".join(lines)


def maker_line(maker):
    """Return the line of a maker."""
    word, family, head, arguments = maker
    line = "maker " + word + " : " + write_type((family, head))
    return line + " from " + write_goal(arguments) if arguments else line


def clause_line(word, clause):
    """Return the line of a clause of a function."""
    patterns, body = clause
    shown = ", ".join([write_expression(pattern) for pattern in patterns])
    return "clause " + word + " : " + shown + " = " + write_expression(body)


def read_program(text):
    """Return the program that has a text."""
    constructors, families, makers, functions = [], [], [], []
    for line in text.split("\n"):
        kind = line.partition(" ")[0]
        if kind == "index":
            constructors.append(read_constructor(line))
        elif kind == "family":
            families.append(read_family(line))
        elif kind == "maker":
            makers.append(read_maker(line))
        elif kind == "function":
            functions.append(read_function(line))
        else:
            word, clause = read_clause(line)
            functions = with_clause(functions, word, clause)
    program = ((tuple(constructors), tuple(families), tuple(makers)), tuple(functions))
    # The lines may stand in another order than that of the text: then this is no text of a program.
    if not is_program(program) or write_program(program) != text:
        raise BadText("this is not the text of a program")
    return program


def with_clause(functions, word, clause):
    """Return functions with a clause behind those of the last one, which must have a name."""
    if not functions or functions[-1][0] != word:
        raise BadText("a clause does not stand behind its function")
    name, arguments, result, clauses = functions[-1]
    return functions[:-1] + [(name, arguments, result, (*clauses, clause))]
