"""Consoles: they read lines for a desk, and answer."""

from wakedenough.errors import BadAct, BadAsk, BadText, NothingDone, TooGreat, UnknownName
from wakedenough.lexemes import Reader
from wakedenough.sheettexts import runs_text, sees_part, spread_parts, take_part

# What stands between the word and the semicolon of a line that does an act and is no part.
ACTS = {"start": ("numeral",), "sight": ("numeral",), "drop": ("name",), "add": ("name", "numeral")}

# How many names stand there of all other lines.
NAMES = {
    "undo": 0, "redo": 0, "mark": 1, "since": 1, "least": 1, "paid": 1, "quotient": 1, "runs": 1, "factor": 1,
    "unmet": 1, "price": 2, "best": 1, "inside": 1, "menu": 1, "paper": 3, "parts": 0,
}


def fraction_text(value):
    """Return the written text of a fraction, or of None."""
    if value is None:
        return "none"
    return f"{value[0]}" if value[1] == 1 else f"{value[0]}/{value[1]}"


def answer_undo(desk):
    """Take the last act back."""
    desk.undo()
    return "done"


def answer_redo(desk):
    """Do the act again that was taken back last."""
    desk.redo()
    return "done"


def answer_mark(desk, name):
    """Set a mark."""
    desk.mark(name)
    return "done"


def answer_since(desk, name):
    """Tell how many acts more are done than at a mark."""
    return str(desk.since(name))


def answer_least(desk, name):
    """Tell the least cost of a need row."""
    return str(desk.least(name))


def answer_paid(desk, name):
    """Tell what the sight runner pays for a need row."""
    return str(desk.paid(name))


def answer_quotient(desk, name):
    """Tell the quotient of a need row."""
    return fraction_text(desk.quotient(name))


def answer_runs(desk, name):
    """Tell the sight runner's run on a need row."""
    return runs_text(desk.runs(name))


def answer_factor(desk, name):
    """Tell the factor of a rule."""
    return fraction_text(desk.factor(name))


def answer_unmet(desk, name):
    """Tell how many ticks a shortest row has that a rule does not serve."""
    row = desk.unmet(name)
    return "none" if row is None else str(len(row))


def answer_price(desk, name, needs):
    """Tell what a rule pays on a need row."""
    return str(desk.price(name, needs))


def answer_best(desk, name):
    """Tell the least cost of a slot row."""
    return str(desk.best(name))


def answer_inside(desk, name):
    """Tell what the inner runner pays for a slot row."""
    return str(desk.inside(name))


def answer_menu(desk, name):
    """Tell the menu factor of a slot row."""
    return fraction_text(desk.menu(name))


def answer_paper(desk, row, prices, slots):
    """Tell whether a fleet row and prices are a paper for a slot row, or their fault."""
    fault = desk.paper(row, prices, slots)
    return "yes" if fault is None else " ".join([str(part) for part in fault])


def answer_parts(desk):
    """Tell the names of all parts."""
    return " ".join([part[1] for part in desk.sheet()[2]])


ANSWERS = {
    "undo": answer_undo, "redo": answer_redo, "mark": answer_mark, "since": answer_since, "least": answer_least,
    "paid": answer_paid, "quotient": answer_quotient, "runs": answer_runs, "factor": answer_factor,
    "unmet": answer_unmet, "price": answer_price, "best": answer_best, "inside": answer_inside, "menu": answer_menu,
    "paper": answer_paper, "parts": answer_parts,
}


def form_of(word):
    """Return what stands behind the word of a line that is no part, or None if no line begins with it."""
    if word in ACTS:
        return ACTS[word]
    if word in NAMES:
        return ("name",) * NAMES[word]
    return None


def take_words(reader):
    """Return the tuple of the word of a line that is no part, and of what is told behind it."""
    place = reader.here()
    word = reader.take_word()
    form = form_of(word)
    if form is None:
        raise BadText(place)
    told = [reader.take_numeral() if sort == "numeral" else reader.take_word() for sort in form]
    reader.take(";")
    return (word, *told)


def read_line(line):
    """Return the tuple of a word and of what is told behind it, for a line."""
    reader = Reader(line)
    if not sees_part(reader):
        told = take_words(reader)
        reader.finish()
        return told
    part = take_part(reader)
    reader.finish()
    return ("put", spread_parts([part])[0])


def answer_told(desk, told):
    """Do and ask what a line tells, and return the answer."""
    if told[0] == "put" or told[0] in ACTS:
        desk.do(told)
        return "done"
    word, *asked = told
    answer = ANSWERS[word]
    return answer(desk, *asked)


class Console:
    """A console that works on a desk."""

    def __init__(self, desk):
        self.desk = desk

    def answer(self, line):
        """Do and ask what a line tells, and return the answer."""
        try:
            return answer_told(self.desk, read_line(line))
        except BadText as wrong:
            return f"no {wrong.place}"
        except TooGreat:
            return "no great"
        except (BadAct, BadAsk) as refused:
            return f"no {refused.word}"
        except NothingDone:
            return "no nothing"
        except UnknownName:
            return "no mark"
