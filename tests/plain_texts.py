"""What part 18 of the document says about texts, worked out in the plainest way, for comparing."""

import ast
import re

from plain_programs import is_plain_program
from reference import is_plain_type


def term_text(term):
    if type(term) is int:
        return "x" + str(term)
    return term[0] + ("(" + ",".join(map(term_text, term[1:])) + ")" if term[1:] else "")


def expression_text(expression):
    if type(expression) is str:
        return expression
    return expression[0] + "(" + ",".join(map(expression_text, expression[1:])) + ")"


def goal_text(goal):
    return ", ".join([family + "(" + term_text(index) + ")" for family, index in goal]) or "none"


def program_text(program):
    """Return the text of a program, by the words of point 18.3."""
    (constructors, families, makers), functions = program
    lines = [" ".join(["index", word, str(arity)]) for word, arity in constructors]
    lines += ["family " + family for family in families]
    for word, family, head, arguments in makers:
        behind = ["from", goal_text(arguments)] if arguments else []
        lines.append(" ".join(["maker", word, ":", goal_text(((family, head),))] + behind))
    for word, arguments, result, clauses in functions:
        lines.append(" ".join(["function", word, ":", goal_text(arguments), "to", goal_text((result,))]))
        for patterns, body in clauses:
            shown = ", ".join(map(expression_text, patterns))
            lines.append(" ".join(["clause", word, ":", shown, "=", expression_text(body)]))
    return "\n".join(lines)


def nested(text, variables):
    """Return what a text of words, commas and parentheses tells, read as Python would read it, or None."""
    # Words are not to be taken for words of Python.
    named = re.sub("[a-z]+[0-9]*", lambda found: "n" + found.group(), text)
    try:
        top = ast.parse(named, mode="eval").body
    except SyntaxError:
        return None

    def told(node):
        if type(node) is ast.Name and variables and re.fullmatch("nx[0-9]+", node.id):
            return int(node.id[2:])
        if type(node) is ast.Name:
            return (node.id[1:],) if variables else node.id[1:]
        if type(node) is ast.Call and type(node.func) is ast.Name and not node.keywords:
            return (node.func.id[1:],) + tuple(told(part) for part in node.args)
        raise ValueError

    try:
        return told(top)
    except ValueError:
        return None


def words_in(expression):
    if type(expression) is int:
        return []
    if type(expression) is str:
        return [expression]
    return [expression[0]] + [word for part in expression[1:] for word in words_in(part)]


def read_expression_plainly(text):
    """Return the expression that has a text, or None."""
    if not re.fullmatch("[a-z(),]+", text):
        return None
    found = nested(text, False)
    if found is None or expression_text(found) != text:
        return None
    return found if all(re.fullmatch("[a-z]{1,12}", word) for word in words_in(found)) else None


def read_term_plainly(text):
    """Return the term over any constructors that has a text, or None."""
    if not re.fullmatch("[a-z0-9(),]+", text) or re.search("[0-9]{7}", text):
        return None
    found = nested(text, True)
    if found is None or term_text(found) != text:
        return None
    return found if all(re.fullmatch("[a-z]{1,12}", word) for word in words_in(found)) else None


def read_goal_plainly(text):
    """Return the goal over any signature that has a text, or None."""
    if text == "none":
        return ()
    goal = []
    for part in text.split(", "):
        found = re.fullmatch(r"([a-z]{1,12})\((.*)\)", part)
        index = read_term_plainly(found.group(2)) if found else None
        if index is None:
            return None
        goal.append((found.group(1), index))
    return tuple(goal)


def read_goal_over(signature, text):
    """Return the goal over a signature that has a text, or None."""
    goal = read_goal_plainly(text)
    if goal is None or not all(is_plain_type(signature[0], signature[1], part) for part in goal):
        return None
    return goal


def read_maker_plainly(line):
    """Return the maker of a line, or None if it has not the shape of one."""
    found = re.fullmatch("maker ([a-z]{1,12}) : ([^ ]+)(?: from (.+))?", line)
    if not found:
        return None
    top = read_goal_plainly(found.group(2))
    arguments = read_goal_plainly(found.group(3)) if found.group(3) else ()
    if not top or arguments is None or (found.group(3) and not arguments):
        return None
    return (found.group(1),) + top[0] + (arguments,)


def read_function_plainly(line):
    """Return the function of a line, without clauses, or None."""
    found = re.fullmatch("function ([a-z]{1,12}) : (.+) to ([^ ]+)", line)
    if not found:
        return None
    arguments, result = read_goal_plainly(found.group(2)), read_goal_plainly(found.group(3))
    return (found.group(1), arguments, result[0], ()) if arguments and result else None


def read_clause_plainly(line):
    """Return the name of the function and the clause of a line, or None."""
    found = re.fullmatch("clause ([a-z]{1,12}) : (.+) = ([^ ]+)", line)
    if not found:
        return None
    patterns = [read_expression_plainly(part) for part in found.group(2).split(", ")]
    body = read_expression_plainly(found.group(3))
    return None if body is None or None in patterns else (found.group(1), (tuple(patterns), body))


def read_program_plainly(text):
    """Return the program that has a text, or None."""
    constructors, families, makers, functions = [], [], [], []
    for line in text.split("\n"):
        index = re.fullmatch("index ([a-z]{1,12}) ([0-2])", line)
        family = re.fullmatch("family ([a-z]{1,12})", line)
        if index:
            constructors.append((index.group(1), int(index.group(2))))
        elif family:
            families.append(family.group(1))
        elif read_maker_plainly(line):
            makers.append(read_maker_plainly(line))
        elif read_function_plainly(line):
            functions.append(read_function_plainly(line))
        elif read_clause_plainly(line) and functions:
            clauses = functions[-1][3] + (read_clause_plainly(line)[1],)
            functions[-1] = functions[-1][:3] + (clauses,)
        else:
            return None
    program = ((tuple(constructors), tuple(families), tuple(makers)), tuple(functions))
    return program if is_plain_program(program) and program_text(program) == text else None
