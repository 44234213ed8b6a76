"""Words, constructors and index terms (part 1)."""

from casefamilies.errors import BadText

LONGEST_WORD = 12
LONGEST_NUMBER = 6
MOST_CONSTRUCTORS = 5


def is_word(value):
    """Return True if a value is a word."""
    if type(value) is not str or not 1 <= len(value) <= LONGEST_WORD:
        return False
    return all(["a" <= letter <= "z" for letter in value])


def is_constructors(value):
    """Return True if a value is a tuple of constructors."""
    if type(value) is not tuple or not 1 <= len(value) <= MOST_CONSTRUCTORS:
        return False
    if not all([is_constructor(pair) for pair in value]):
        return False
    arities = {word: arity for word, arity in value}
    return len(arities) == len(value) and 0 in list(arities.values())


def is_constructor(value):
    """Return True if a value is a pair of a word and an arity."""
    if type(value) is not tuple or len(value) != 2 or not is_word(value[0]):
        return False
    return type(value[1]) is int and 0 <= value[1] <= 2


def is_term(constructors, value):
    """Return True if a value is a term over the constructors."""
    arities = {word: arity for word, arity in constructors}
    waiting = [value]
    while waiting:
        part = waiting.pop()
        if type(part) is int:
            if part < 0:
                return False
        elif is_node(arities, part):
            waiting.extend(part[1:])
        else:
            return False
    return True


def is_node(arities, value):
    """Return True if a value is a tuple with the word and the length of a constructor."""
    if type(value) is not tuple or not value or type(value[0]) is not str:
        return False
    return arities.get(value[0]) == len(value) - 1


def is_closed_term(constructors, value):
    """Return True if a value is a term over the constructors without variables."""
    return is_term(constructors, value) and not variables(value)


def size(term):
    """Return the number of nodes of a term."""
    many = 0
    waiting = [term]
    while waiting:
        part = waiting.pop()
        many += 1
        if type(part) is tuple:
            waiting.extend(part[1:])
    return many


def height(term):
    """Return the greatest number of nodes on a way from the top to a leaf."""
    highest = 0
    waiting = [(term, 1)]
    while waiting:
        part, level = waiting.pop()
        highest = max(highest, level)
        if type(part) is tuple:
            waiting.extend([(below, level + 1) for below in part[1:]])
    return highest


def variables(term):
    """Return the different variables of a term, in the order of their first appearance."""
    return variables_in((term,))


def variables_in(terms):
    """Return the different variables of several terms, in the order of their first appearance."""
    return list({part: True for part in occurrences(terms)})


def occurrences(terms):
    """Return the variables of terms from the left, each as often as it occurs."""
    found = []
    waiting = list(terms[::-1])
    while waiting:
        part = waiting.pop()
        if type(part) is int:
            found.append(part)
        else:
            waiting.extend(part[:0:-1])
    return found


def is_linear(term):
    """Return True if no variable occurs twice in a term."""
    found = occurrences((term,))
    return len(set(found)) == len(found)


def substituted(term, substitution):
    """Return a term with its variables replaced, all at the same time."""
    if type(term) is int:
        return substitution.get(term, term)
    return (term[0],) + tuple([substituted(part, substitution) for part in term[1:]])


def composed(first, second):
    """Return the substitution that does the same as one followed by another."""
    joined = {variable: substituted(term, second) for variable, term in first.items()}
    for variable, term in second.items():
        joined.setdefault(variable, term)
    return {variable: term for variable, term in joined.items() if term != variable}


def shifted(term, n):
    """Return a term with every variable greater by n."""
    if type(term) is int:
        return term + n
    return (term[0],) + tuple([shifted(part, n) for part in term[1:]])


def tidied(terms):
    """Return terms with their variables renamed to 0, 1, 2, .. from the left."""
    found = variables_in(terms)
    if found == list(range(len(found))):
        return tuple(terms)
    names = {old: new for new, old in enumerate(found)}
    return tuple([substituted(term, names) for term in terms])


def write_term(term):
    """Return the text of a term."""
    if type(term) is int:
        return f"x{term}"
    if len(term) == 1:
        return term[0]
    return term[0] + "(" + ",".join([write_term(part) for part in term[1:]]) + ")"


def read_term(constructors, text):
    """Return the term over the constructors that has a text."""
    term, end = term_at(text, 0)
    if end != len(text) or not is_term(constructors, term):
        raise BadText("this is not the text of a term")
    return term


def term_at(text, start):
    """Return the term over any words that begins at a place of a text, and the place behind it."""
    end = run_end(text, start, "a", "z")
    word = text[start:end]
    if word == "x" and run_end(text, end, "0", "9") > end:
        return variable_at(text, end)
    if not is_word(word):
        raise BadText("a term begins with a word or is a variable")
    if text[end:end + 1] != "(":
        return (word,), end
    parts, end = parts_at(text, end + 1)
    return (word, *parts), end


def parts_at(text, start):
    """Return the terms between the commas up to a closing parenthesis, and the place behind it."""
    parts = []
    while True:
        part, start = term_at(text, start)
        parts.append(part)
        sign = text[start:start + 1]
        start += 1
        if sign == ")":
            return parts, start
        if sign != ",":
            raise BadText("a comma or a parenthesis is missing")


def variable_at(text, start):
    """Return the variable whose digits begin at a place of a text, and the place behind it."""
    end = run_end(text, start, "0", "9")
    digits = text[start:end]
    # A number is only ever written without zeros in front.
    if len(digits) > LONGEST_NUMBER or (digits[0] == "0" and digits != "0"):
        raise BadText("this is not the number of a variable")
    return int(digits), end


def run_end(text, start, least, greatest):
    """Return the place behind the signs from least to greatest that stand at a place of a text."""
    end = start
    while end < len(text) and least <= text[end] <= greatest:
        end += 1
    return end


def closed_terms(constructors, n):
    """Return all closed terms of size n, in order."""
    listed = [[]]
    for many in range(1, n + 1):
        listed.append(terms_on_top(constructors, listed, many))
    return sorted(listed[n], key=write_term) if n > 0 else []


def terms_on_top(constructors, listed, many):
    """Return the closed terms of a size, where those of all lesser sizes are listed."""
    found = []
    for word, arity in constructors:
        if arity == 0 and many == 1:
            found.append((word,))
        if arity == 1:
            found.extend([(word, part) for part in listed[many - 1]])
        if arity == 2:
            for left in range(1, many - 1):
                found.extend([(word, a, b) for a in listed[left] for b in listed[many - 1 - left]])
    return found


def count_closed_terms(constructors, n):
    """Return the number of closed terms of size n."""
    arities = [arity for word, arity in constructors]
    counts = [0]
    for many in range(1, n + 1):
        pairs = sum([counts[left] * counts[many - 1 - left] for left in range(1, many - 1)])
        leaves = arities.count(0) if many == 1 else 0
        counts.append(leaves + arities.count(1) * counts[many - 1] + arities.count(2) * pairs)
    return counts[n] if n > 0 else 0
