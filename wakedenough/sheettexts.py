"""Texts of sheets and of rows of numbers: how they are written and read."""

from wakedenough.errors import BadText, TooGreat
from wakedenough.lexemes import Reader
from wakedenough.sheets import check_sheet

MOST_NUMBERS = 100000


def runs_of(numbers):
    """Return the fewest runs, pairs (number, times), that tell a row of numbers."""
    runs = []
    for number in numbers:
        if runs and runs[-1][0] == number:
            runs[-1] = (number, runs[-1][1] + 1)
        else:
            runs.append((number, 1))
    return runs


def run_text(number, times):
    """Return the written text of one run."""
    return f"{number}" if times == 1 else f"{number} x {times}"


def runs_text(numbers):
    """Return the written runs of a tuple of numbers."""
    return ", ".join([run_text(number, times) for number, times in runs_of(numbers)])


def slot_text(slot):
    """Return the written text of a slot."""
    need, most, first, slopes = slot
    words = [f"{need} {most} {first}:"] + [str(slope) for slope in slopes]
    return "[" + " ".join(words) + "]"


def slots_text(slots):
    """Return the written text of a slot row."""
    return " ".join([slot_text(slot) for slot in slots])


def state_text(state):
    """Return the written text of a state of a rule."""
    return "{" + ", ".join([f"{x} -> {late}" for x, late in state]) + "}"


def rule_text(rule):
    """Return the written text of a rule."""
    most, states = rule
    return " ".join([f"most {most}"] + [state_text(state) for state in states])


TEXTS = {
    "needs": runs_text,
    "row": runs_text,
    "prices": runs_text,
    "slots": slots_text,
    "rule": rule_text,
}


def part_text(part):
    """Return the written line of a part of a sheet, without its line feed."""
    word, name, told = part
    text_of = TEXTS[word]
    text = text_of(told)
    # An empty row has no text, so that no blank may stand ahead of the semicolon.
    return f"{word} {name} {text};" if text else f"{word} {name};"


def sheet_text(sheet):
    """Return the written text of a sheet."""
    b, w, parts = sheet
    lines = ["sheet {", f"start {b};", f"sight {w};"]
    lines = lines + [part_text(part) for part in parts] + ["}"]
    return "".join([line + "\n" for line in lines])


def take_run(reader):
    """Return the run ahead of a reader, a pair (number, times)."""
    number = reader.take_numeral()
    if not reader.sees("x"):
        return (number, 1)
    reader.take("x")
    return (number, reader.take_numeral())


def take_runs(reader):
    """Return the runs ahead of a reader, a list of pairs (number, times)."""
    if not reader.sees_sort("numeral"):
        return []
    runs = [take_run(reader)]
    while reader.sees(","):
        reader.take(",")
        runs.append(take_run(reader))
    return runs


def take_integer(reader):
    """Return the integer ahead of a reader."""
    if not reader.sees("-"):
        return reader.take_numeral()
    reader.take("-")
    if reader.sees("0"):
        raise BadText(reader.here())
    return -reader.take_numeral()


def take_slot(reader):
    """Return the slot ahead of a reader."""
    reader.take("[")
    need = reader.take_numeral()
    most = reader.take_numeral()
    first = reader.take_numeral()
    reader.take(":")
    slopes = []
    while not reader.sees("]"):
        slopes.append(take_integer(reader))
    reader.take("]")
    return (need, most, first, tuple(slopes))


def take_slots(reader):
    """Return the slot row ahead of a reader."""
    slots = []
    while reader.sees("["):
        slots.append(take_slot(reader))
    return tuple(slots)


def take_pair(reader):
    """Return the pair of a state ahead of a reader."""
    x = reader.take_numeral()
    reader.take("->")
    return (x, reader.take_numeral())


def take_state(reader):
    """Return the state ahead of a reader."""
    reader.take("{")
    pairs = [take_pair(reader)]
    while reader.sees(","):
        reader.take(",")
        pairs.append(take_pair(reader))
    reader.take("}")
    return tuple(pairs)


def take_rule(reader):
    """Return the rule ahead of a reader."""
    reader.take("most")
    most = reader.take_numeral()
    states = [take_state(reader)]
    while reader.sees("{"):
        states.append(take_state(reader))
    return (most, tuple(states))


TAKES = {
    "needs": take_runs,
    "row": take_runs,
    "prices": take_runs,
    "slots": take_slots,
    "rule": take_rule,
}


def sees_part(reader):
    """Return whether the lexeme ahead of a reader begins a part of a sheet."""
    return any([reader.sees(word) for word in TAKES])


def take_part(reader):
    """Return the part of a sheet ahead of a reader, its rows as lists of runs."""
    place = reader.here()
    word = reader.take_word()
    if word not in TAKES:
        raise BadText(place)
    name = reader.take_word()
    take_told = TAKES[word]
    told = take_told(reader)
    reader.take(";")
    return (word, name, told)


def take_sheet(reader):
    """Return the sheet ahead of a reader, its rows as lists of runs."""
    reader.take("sheet")
    reader.take("{")
    reader.take("start")
    b = reader.take_numeral()
    reader.take(";")
    reader.take("sight")
    w = reader.take_numeral()
    reader.take(";")
    parts = []
    while not reader.sees("}"):
        parts.append(take_part(reader))
    reader.take("}")
    return (b, w, parts)


def count_of(runs):
    """Return how many numbers some runs tell."""
    return sum([times for _, times in runs])


def spread(runs):
    """Return the tuple of the numbers that some runs tell."""
    numbers = []
    for number, times in runs:
        numbers.extend([number] * times)
    return tuple(numbers)


def tells_runs(part):
    """Return whether a part that was read has a list of runs for its value."""
    return isinstance(part[2], list)


def spread_part(part):
    """Return a part that was read, with its row, if it has one, as a tuple of numbers."""
    if not tells_runs(part):
        return part
    return (part[0], part[1], spread(part[2]))


def require_not_too_great(many):
    """Raise TooGreat if there are more numbers than a text may tell."""
    if many > MOST_NUMBERS:
        raise TooGreat()


def read_runs(text):
    """Return the tuple of the numbers that a text of runs tells."""
    reader = Reader(text)
    runs = take_runs(reader)
    reader.finish()
    require_not_too_great(count_of(runs))
    return spread(runs)


def spread_parts(parts):
    """Return the tuple of parts that were read, with their rows; raise TooGreat if these have too many numbers."""
    require_not_too_great(sum([count_of(part[2]) for part in parts if tells_runs(part)]))
    return tuple([spread_part(part) for part in parts])


def read_sheet(text):
    """Return the sheet that a text tells."""
    reader = Reader(text)
    b, w, parts = take_sheet(reader)
    reader.finish()
    sheet = (b, w, spread_parts(parts))
    check_sheet(sheet)
    return sheet
