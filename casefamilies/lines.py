"""The shapes of texts and of the lines of a program, whatever the names in them mean (part 18).

A reader that begins at a place of a text returns what stands there and the place behind it. All
readers raise BadText if the text has another shape.
"""

from casefamilies.errors import BadText
from casefamilies.terms import is_word, run_end, term_at, variable_at


def skipped(text, start, signs):
    """Return the place behind signs that must stand at a place of a text."""
    end = start + len(signs)
    if text[start:end] != signs:
        raise BadText("a sign is missing")
    return end


def finished(text, end):
    """Raise BadText if a text goes on behind a place."""
    if end != len(text):
        raise BadText("the text goes on where it should end")


def word_at(text, start):
    """Return the word at a place of a text, and the place behind it."""
    end = run_end(text, start, "a", "z")
    if not is_word(text[start:end]):
        raise BadText("a word is missing")
    return text[start:end], end


def number_at(text, start):
    """Return the number at a place of a text, and the place behind it."""
    if run_end(text, start, "0", "9") == start:
        raise BadText("a number is missing")
    return variable_at(text, start)


def type_at(text, start):
    """Return the pair of a family and an index at a place of a text, and the place behind it."""
    family, end = word_at(text, start)
    index, end = term_at(text, skipped(text, end, "("))
    return (family, index), skipped(text, end, ")")


def types_at(text, start):
    """Return the tuple of one or more types at a place of a text, and the place behind it."""
    part, end = type_at(text, start)
    parts = [part]
    while text[end:end + 2] == ", ":
        part, end = type_at(text, end + 2)
        parts.append(part)
    return tuple(parts), end


def expression_at(text, start):
    """Return the expression at a place of a text, and the place behind it."""
    word, end = word_at(text, start)
    if text[end:end + 1] != "(":
        return word, end
    if text[end + 1:end + 2] == ")":
        return (word,), end + 2
    parts, end = expressions_at(text, end + 1, ",")
    return (word, *parts), skipped(text, end, ")")


def expressions_at(text, start, between):
    """Return the tuple of one or more expressions, with signs between them, and the place behind it."""
    part, end = expression_at(text, start)
    parts = [part]
    while text[end:end + len(between)] == between:
        part, end = expression_at(text, end + len(between))
        parts.append(part)
    return tuple(parts), end


def named_at(line, start):
    """Return the word at a place of a line and the place behind the colon that follows it."""
    word, end = word_at(line, start)
    return word, skipped(line, end, " : ")


def read_constructor(line):
    """Return the constructor that a line tells."""
    word, end = word_at(line, skipped(line, 0, "index "))
    arity, end = number_at(line, skipped(line, end, " "))
    finished(line, end)
    return (word, arity)


def read_family(line):
    """Return the family that a line tells."""
    word, end = word_at(line, skipped(line, 0, "family "))
    finished(line, end)
    return word


def read_maker(line):
    """Return the maker that a line tells."""
    word, end = named_at(line, skipped(line, 0, "maker "))
    (family, head), end = type_at(line, end)
    arguments = ()
    if end < len(line):
        arguments, end = types_at(line, skipped(line, end, " from "))
    finished(line, end)
    return (word, family, head, arguments)


def read_function(line):
    """Return the function that a line tells, without clauses."""
    word, end = named_at(line, skipped(line, 0, "function "))
    arguments, end = types_at(line, end)
    result, end = type_at(line, skipped(line, end, " to "))
    finished(line, end)
    return (word, arguments, result, ())


def read_clause(line):
    """Return the name of the function and the clause that a line tells."""
    word, end = named_at(line, skipped(line, 0, "clause "))
    patterns, end = expressions_at(line, end, ", ")
    body, end = expression_at(line, skipped(line, end, " = "))
    finished(line, end)
    return word, (patterns, body)
