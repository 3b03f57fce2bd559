"""Programs as texts, and texts as programs."""

from pausewright.errors import BadText
from pausewright.works import need_program

WITHIN = "  "
NO_SLOT = "-"
SLOT = "s"
OF_TWO = ("plus", "less", "times", "part", "below", "same")
MOST_FIGURES = 9


def written(program):
    """The text of a program."""
    need_program(program)
    rows = []
    for params, slots, body in program:
        rows.append(f"work {params} {slots}")
        rows.extend(rows_of_body(body))
    return "\n".join(rows)


def rows_of_body(steps):
    """The rows of a body, each behind the blanks for it."""
    return [WITHIN + row for step in steps for row in rows_of_step(step)]


def rows_of_step(given):
    """The rows of a step, and of the bodies within it."""
    match given:
        case ("set", k, e):
            return [f"set {k} {words_of(e)}"]
        case ("say" | "fault" | "end", e):
            return [f"{given[0]} {words_of(e)}"]
        case ("give", e, k):
            return [f"give {words_of(e)} {word_of_kept(k)}"]
        case ("hand", w, args, k):
            return [" ".join(["hand", str(w), word_of_kept(k)] + [words_of(arg) for arg in args])]
        case ("if", e, first, second):
            return [f"if {words_of(e)}"] + rows_of_body(first) + ["else"] + rows_of_body(second)
        case ("round", e, body):
            return [f"round {words_of(e)}"] + rows_of_body(body)
        case ("try", first, caught, last):
            return ["try"] + rows_of_body(first) + rows_of_caught(caught) + ["last"] + rows_of_body(last)
        case _:
            return ["leave"]


def rows_of_caught(given):
    """The rows of what a try has as caught."""
    if given is None:
        return []
    k, body = given
    return [f"caught {word_of_kept(k)}"] + rows_of_body(body)


def word_of_kept(k):
    """The word for a slot, or for None."""
    return NO_SLOT if k is None else str(k)


def words_of(e):
    """The words of a reckoning, with blanks between."""
    if e[0] == "num":
        return str(e[1])
    if e[0] == "slot":
        return f"{SLOT}{e[1]}"
    word, first, second = e
    return f"{word} {words_of(first)} {words_of(second)}"


def read(text):
    """The program of a text."""
    program = Reading(text.split("\n")).all_works()
    need_program(program)
    return program


def blanks_of(text):
    """How many blanks stand ahead of a row."""
    return len(text) - len(text.lstrip(" "))


class Reading:
    """Reads the rows of a text, one after another; BadText at the first that can't stand there."""

    def __init__(self, rows):
        self.rows = rows
        self.done = 0

    def all_works(self):
        """The works of all rows."""
        works = []
        while self.done < len(self.rows):
            works.append(self.one_work())
        return works

    def one_work(self):
        """The work that begins with the next row."""
        row = self.next_row(0)
        row.need(row.word() == "work")
        params = row.numeral()
        slots = row.whole(row.numeral())
        return (params, slots, self.body(len(WITHIN)))

    def next_row(self, blanks):
        """The next row, behind so many blanks; BadText where it is another one, or none."""
        if self.done == len(self.rows):
            raise BadText(self.done)
        row = Row(self.rows[self.done], self.done)
        row.need(row.blanks == blanks)
        self.done += 1
        return row

    def body(self, blanks):
        """The body of the rows behind so many blanks."""
        steps = []
        # A row behind more blanks than these is no other body's either, and refused as the next row.
        while self.done < len(self.rows) and blanks_of(self.rows[self.done]) >= blanks:
            steps.append(self.step(self.next_row(blanks), blanks))
        return tuple(steps)

    def step(self, row, blanks):
        """The step that begins with a row behind so many blanks."""
        within = blanks + len(WITHIN)
        match row.word():
            case "if":
                e = row.whole(row.reckoning())
                first = self.body(within)
                row = self.next_row(blanks)
                row.need(row.whole(row.word()) == "else")
                return ("if", e, first, self.body(within))
            case "round":
                e = row.whole(row.reckoning())
                return ("round", e, self.body(within))
            case "try":
                row.whole(None)
                return self.attempt(blanks, within)
            case word:
                return row.whole(row.step_alone(word))

    def attempt(self, blanks, within):
        """The try whose row, behind so many blanks, is read."""
        first = self.body(within)
        caught = None
        row = self.next_row(blanks)
        word = row.word()
        if word == "caught":
            k = row.whole(row.kept())
            caught = (k, self.body(within))
            row = self.next_row(blanks)
            word = row.word()
        row.need(row.whole(word) == "last")
        return ("try", first, caught, self.body(within))


class Row:
    """A row of a text, of which one word after another is taken; BadText where it can't stand there."""

    def __init__(self, text, at):
        self.at = at
        self.blanks = blanks_of(text)
        self.ahead = text[self.blanks:].split(" ")

    def need(self, holds):
        """BadText, unless this holds."""
        if not holds:
            raise BadText(self.at)

    def word(self):
        """The next word."""
        self.need(len(self.ahead) > 0)
        return self.ahead.pop(0)

    def whole(self, meaning):
        """What the row means, if no word is left."""
        self.need(len(self.ahead) == 0)
        return meaning

    def step_alone(self, word):
        """The step without bodies that begins with this word."""
        match word:
            case "set":
                return (word, self.kept(), self.reckoning())
            case "say" | "fault" | "end":
                return (word, self.reckoning())
            case "give":
                return (word, self.reckoning(), self.kept())
            case "hand":
                w = self.numeral()
                k = self.kept()
                return (word, w, self.reckonings(), k)
            case "leave":
                return (word,)
            case _:
                raise BadText(self.at)

    def reckonings(self):
        """The reckonings of all words that are left."""
        found = []
        while len(self.ahead) > 0:
            found.append(self.reckoning())
        return tuple(found)

    def reckoning(self):
        """The reckoning of the next words."""
        word = self.word()
        if word in OF_TWO:
            first = self.reckoning()
            return (word, first, self.reckoning())
        if word.startswith(SLOT):
            return ("slot", self.number_of(word[len(SLOT):]))
        return ("num", self.number_of(word))

    def kept(self):
        """The slot of the next word, or None."""
        word = self.word()
        return None if word == NO_SLOT else self.number_of(word)

    def numeral(self):
        """The number of the next word."""
        return self.number_of(self.word())

    def number_of(self, figures):
        """The number with these figures."""
        self.need(figures.isdigit() and len(figures) <= MOST_FIGURES)
        self.need(figures == "0" or not figures.startswith("0"))
        return int(figures)
