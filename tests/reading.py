"""Plain readers of languages, by patterns, and texts that are a little changed."""

import re

from greenheld.errors import BadText


class Language:
    """A pattern of the texts that can be read, and samples whose ends finish any text that can be finished."""

    def __init__(self, pattern, samples):
        self.pattern = re.compile(pattern)
        self.ends = sorted({sample[k:] for sample in samples for k in range(len(sample) + 1)})

    def can_be_read(self, text):
        """By a pattern, and not by the program."""
        return self.pattern.fullmatch(text) is not None

    def is_beginning(self, text):
        return any(self.can_be_read(text + end) for end in self.ends)

    def place(self, text):
        """The number of signs of the longest beginning of text that is a beginning of one that can be read."""
        low, high = 0, len(text)
        while low < high:
            # What begins with no beginning is none.
            middle = (low + high + 1) // 2
            if self.is_beginning(text[:middle]):
                low = middle
            else:
                high = middle - 1
        return low


def place_told(read, text):
    """The place that BadText tells, None if the text is read."""
    try:
        read(text)
    except BadText as error:
        return error.place
    return None


def changes(text, signs):
    """Texts cut short, or with one sign put in, left out or exchanged."""
    found = [text[:k] for k in range(len(text))]
    for k in range(len(text) + 1):
        found.extend(text[:k] + sign + text[k:] for sign in signs)
        found.extend(text[:k] + sign + text[k + 1:] for sign in signs)
        found.append(text[:k] + text[k + 1:])
        found.append(text[:k] + text[k + 1:k + 2] + text[k:k + 1] + text[k + 2:])
    return sorted(set(found))
