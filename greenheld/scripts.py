"""Events and scripts as texts."""

from greenheld.texts import DIGITS, Reader

MOST_DIGITS = 60


def numbers_text(numbers):
    """The numbers, with blanks between."""
    return " ".join([str(number) for number in numbers])


def plan_text(plan):
    """The pairs of a plan, - without any."""
    return " ".join([f"{s}:{ticks}" for s, ticks in plan]) if plan else "-"


def pair_text(pair):
    """A plan and its lets."""
    return f"{plan_text(pair[0])} lets {numbers_text(pair[1])}"


def mode_text(mode):
    """A mode, its round behind it."""
    if mode[0] != "table":
        return mode[0]
    return "table " + "; ".join([pair_text(pair) for pair in mode[1]])


def lamp_text(value):
    """What is told of a lamp."""
    colour, i, is_lit = value
    word = "lit" if is_lit else "out"
    return f"{colour} {i} {word}"


def event_text(event):
    """The line of an event."""
    match event:
        case ("frame", comings, wrong):
            return f"frame {numbers_text(comings)} wrong {numbers_text(wrong)}"
        case ("mode", x, mode):
            return f"mode {x} {mode_text(mode)}"
        case ("lamp", x, value):
            return f"lamp {x} {lamp_text(value)}"
    return numbers_text(event)


def script_text(script):
    """The lines of a script."""
    return "\n".join([event_text(event) for event in script])


def number_behind(reader):
    """The integer from 0 on that goes on here."""
    return reader.number(0, MOST_DIGITS)


def takes_blank(reader):
    """Reads a blank, if a digit stands behind it; returns whether it does. Otherwise a word may stand there."""
    return any([reader.sees(" " + digit) for digit in DIGITS]) and reader.takes(" ")


def numbers_behind(reader):
    """The one or more numbers that go on here."""
    numbers = [number_behind(reader)]
    while takes_blank(reader):
        numbers.append(number_behind(reader))
    return tuple(numbers)


def frame_behind(reader):
    """The event of a frame whose line goes on here."""
    comings = numbers_behind(reader)
    reader.word(" wrong ")
    wrong = [reader.signed(MOST_DIGITS)]
    while reader.takes(" "):
        wrong.append(reader.signed(MOST_DIGITS))
    return ("frame", comings, tuple(wrong))


def part_behind(reader):
    """The stage and its ticks that go on here."""
    s = number_behind(reader)
    reader.word(":")
    return (s, number_behind(reader))


def plan_behind(reader):
    """The plan that goes on here."""
    if reader.takes("-"):
        return ()
    plan = [part_behind(reader)]
    while takes_blank(reader):
        plan.append(part_behind(reader))
    return tuple(plan)


def pair_behind(reader):
    """The plan and its lets that go on here."""
    plan = plan_behind(reader)
    reader.word(" lets ")
    lets = [number_behind(reader)]
    while reader.takes(" "):
        lets.append(number_behind(reader))
    return (plan, tuple(lets))


def mode_behind(reader):
    """The event of a mode whose line goes on here."""
    x = number_behind(reader)
    reader.word(" ")
    word = reader.one_of(("look", "dark", "table"))
    if word != "table":
        return ("mode", x, (word,))
    reader.word(" ")
    pairs = [pair_behind(reader)]
    while reader.sees(";"):
        reader.word("; ")
        pairs.append(pair_behind(reader))
    return ("mode", x, ("table", tuple(pairs)))


def lamp_behind(reader):
    """The event of a lamp whose line goes on here."""
    x = number_behind(reader)
    reader.word(" ")
    colour = reader.one_of(("red", "green"))
    reader.word(" ")
    i = number_behind(reader)
    return ("lamp", x, (colour, i, reader.one_of((" lit", " out")) == " lit"))


def two_behind(reader):
    """The tuple of the two numbers that go on here."""
    one = number_behind(reader)
    reader.word(" ")
    return (one, number_behind(reader))


def fall_behind(reader):
    """The event of a fall whose line goes on here."""
    return ("fall", number_behind(reader))


def mute_behind(reader):
    """The event of lost wishes whose line goes on here."""
    return ("mute",) + two_behind(reader)


def drop_behind(reader):
    """The event of cars that drop whose line goes on here."""
    return ("drop",) + two_behind(reader)


BEHIND = {"frame ": frame_behind, "fall ": fall_behind, "mute ": mute_behind, "drop ": drop_behind,
          "mode ": mode_behind, "lamp ": lamp_behind}


def event_behind(reader):
    """The event whose line goes on here."""
    behind = BEHIND[reader.one_of(list(BEHIND))]
    return behind(reader)


def read_event(text):
    """The event that is written so."""
    reader = Reader(text)
    event = event_behind(reader)
    reader.end()
    return event


def read_script(text):
    """The list of the events that are written so."""
    reader = Reader(text)
    if reader.is_done():
        return []
    script = [event_behind(reader)]
    while not reader.is_done():
        reader.word("\n")
        script.append(event_behind(reader))
    return script
