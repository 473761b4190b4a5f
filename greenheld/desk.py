"""A desk: a house that is asked, and told what to do, by lines of text."""

from greenheld.errors import BadEvent, BadText, NothingDone
from greenheld.house import House
from greenheld.scripts import numbers_text, pair_text, read_event
from greenheld.texts import is_counts, read_counts, town_text

WHAT = "what"
REFUSED = "refused"


def state_answer(house):
    """The cars that wait."""
    return numbers_text(house.state())


def look_answer(house):
    """What the detectors take to be there."""
    return numbers_text(house.look())


def stand_answer(house):
    """Frames and cars."""
    frames, came, gone, cars = house.stand()
    return f"frame {frames} came {came} gone {gone} cars {cars}"


def safe_answer(house):
    """Whether all is right."""
    return "yes" if house.safe() else "no"


def town_answer(house):
    """The lines of the town."""
    return town_text(house.world()["town"])


def modes_answer(house):
    """The words of the modes."""
    return " ".join(house.modes())


def shown_answer(house):
    """A line of greens for each crossing."""
    return "\n".join([numbers_text(greens) if greens else "-" for greens in house.shown()])


def orders_answer(house):
    """A line with the pair of each crossing."""
    return "\n".join([pair_text(pair) for pair in house.orders()])


def undo_answer(house):
    """How many deeds stand done, one less."""
    return str(house.undo())


def redo_answer(house):
    """How many deeds stand done, one more."""
    return str(house.redo())


ANSWERS = {"state": state_answer, "look": look_answer, "stand": stand_answer, "safe": safe_answer,
           "town": town_answer, "modes": modes_answer, "shown": shown_answer, "orders": orders_answer,
           "undo": undo_answer, "redo": redo_answer}


def counts_answer(house, counts):
    """Whether the town carries what is read as counts."""
    if not is_counts(house.world()["town"], counts):
        return WHAT
    return "carried" if house.holds(counts) else "grows"


def answer(house, line):
    """The answer to a line of text, which may raise what the house or a reader raises."""
    if line in ANSWERS:
        short = ANSWERS[line]
        return short(house)
    if line.startswith("counts"):
        return counts_answer(house, read_counts(line))
    return str(house.do(read_event(line)))


class Desk:
    """Has a house."""

    def __init__(self, town, state):
        self._house = House(town, state)

    def house(self):
        """The house itself."""
        return self._house

    def say(self, line):
        """The answer to whatever is said."""
        if not isinstance(line, str):
            return WHAT
        try:
            return answer(self._house, line)
        except NothingDone:
            return REFUSED
        except (BadText, BadEvent):
            return WHAT
