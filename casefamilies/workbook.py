"""Workbooks: a program and questions, with papers that are kept as long as they are right (part 17)."""

from casefamilies.answers import answer, check_answer
from casefamilies.covers import cover_paper
from casefamilies.errors import BadFunction, BadMaker, BadProgram, BadQuestion, Full, InUse, NothingToUndo, Taken
from casefamilies.errors import Unknown
from casefamilies.programs import is_program
from casefamilies.signatures import is_goal
from casefamilies.splits import check_cover
from casefamilies.terms import is_word

MOST_QUESTIONS = 6


class Page:
    """What a workbook holds at one time. Nothing of it is changed later."""

    def __init__(self, whole, goals, answers, covers):
        self.whole = whole
        self.goals = goals
        self.answers = answers
        self.covers = covers


class Workbook:
    """A program with questions, an answer to each question, and a cover paper for each function."""

    def __init__(self, program):
        if not is_program(program):
            raise BadProgram("this is not a program")
        covers = {function[0]: cover_paper(program, function[0]) for function in program[1]}
        self.page = Page(program, {}, {}, covers)
        self.earlier = []
        self.same_answers = []
        self.same_covers = []

    def program(self):
        """Return the program."""
        return self.page.whole

    def questions(self):
        """Return the ascending list of the names and goals of the questions."""
        return sorted([(word, goal) for word, goal in self.page.goals.items()], key=lambda row: row[0])

    def add_maker(self, maker):
        """Put a maker behind the others; return the names of the questions whose answers have another word now."""
        (constructors, families, makers), functions = self.page.whole
        changed = ((constructors, families, (*makers, maker)), functions)
        if not is_program(changed):
            raise BadMaker("this maker does not go with the program")
        return self.go_on_with(changed)

    def drop_maker(self, word):
        """Take a maker away; return the names of the questions whose answers have another word now."""
        (constructors, families, makers), functions = self.page.whole
        left = without_name(makers, word)
        changed = ((constructors, families, left), functions)
        if not is_program(changed):
            raise InUse("a function needs this maker")
        return self.go_on_with(changed)

    def set_function(self, function):
        """Put a function in the place of the one of its name, or behind all if there is none."""
        signature, functions = self.page.whole
        names = [other[0] for other in functions]
        at = len(names)
        if type(function) is tuple and function and type(function[0]) is str and function[0] in names:
            at = names.index(function[0])
        changed = (signature, (*functions[:at], function, *functions[at + 1:]))
        if not is_program(changed):
            raise BadFunction("this function does not go with the program")
        self.go_on_with(changed)

    def drop_function(self, word):
        """Take a function away."""
        signature, functions = self.page.whole
        changed = (signature, without_name(functions, word))
        if not is_program(changed):
            raise InUse("another function needs this function")
        self.go_on_with(changed)

    def go_on_with(self, program):
        """Go on with another program; return the names of the questions whose answers have another word now."""
        page = self.page
        answers = {word: paper for word, paper in page.answers.items()
                   if check_answer(program[0], page.goals[word], paper)}
        known = [function[0] for function in program[1] if function[0] in page.covers]
        covers = {word: page.covers[word] for word in known if check_cover(program, word, page.covers[word])}
        self.same_answers = sorted(answers)
        self.same_covers = sorted(covers)
        for word, goal in page.goals.items():
            if word not in answers:
                answers[word] = answer(program[0], goal)
        for word in [function[0] for function in program[1]]:
            if word not in covers:
                covers[word] = cover_paper(program, word)
        self.turn(Page(program, page.goals, answers, covers))
        return sorted([word for word in answers if answers[word][0] != page.answers[word][0]])

    def turn(self, page):
        """Go on to another page."""
        self.earlier.append(self.page)
        self.page = page

    def ask(self, word, goal):
        """Add a question."""
        page = self.page
        signature = page.whole[0]
        if not is_word(word) or not is_goal(signature, goal):
            raise BadQuestion("this is not a name and a goal over the signature")
        if word in page.goals:
            raise Taken("there is a question of this name")
        if len(page.goals) >= MOST_QUESTIONS:
            raise Full("there are as many questions as there can be")
        answers = {**page.answers, word: answer(signature, goal)}
        self.turn(Page(page.whole, {**page.goals, word: goal}, answers, page.covers))

    def forget(self, word):
        """Take a question away."""
        page = self.page
        entry_of(page.goals, word)
        goals = {other: page.goals[other] for other in page.goals if other != word}
        self.turn(Page(page.whole, goals, {other: page.answers[other] for other in goals}, page.covers))

    def answer_to(self, word):
        """Return the answer to a question."""
        return entry_of(self.page.answers, word)

    def cover_of(self, word):
        """Return the cover paper of a function."""
        return entry_of(self.page.covers, word)

    def kept_answers(self):
        """Return the ascending list of the questions whose answers the last change of the program has kept."""
        return list(self.same_answers)

    def kept_covers(self):
        """Return the ascending list of the functions whose papers the last change of the program has kept."""
        return list(self.same_covers)

    def undo(self):
        """Take the last deed back."""
        if not self.earlier:
            raise NothingToUndo("no deed is left that could be taken back")
        self.page = self.earlier.pop()
        self.same_answers = []
        self.same_covers = []


def without_name(rows, word):
    """Return makers or functions without the one of a name."""
    left = tuple([row for row in rows if row[0] != word])
    if len(left) == len(rows):
        raise Unknown("there is nothing of this name")
    return left


def entry_of(entries, word):
    """Return what stands under a name."""
    if not is_word(word) or word not in entries:
        raise Unknown("there is nothing of this name")
    return entries[word]
