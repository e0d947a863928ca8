"""What several tests share: lists of calls, their answers, and tables as texts."""

from buildanswers.plans import answers

SHOWN = [1]
PLAIN = [3]
BEST = [4]

WORKED_TEXT = (
    "columns a, b, c ; row 0, 0, 0 : 1 ; row 0, 1, 1 : 2 ; row 1, 0, 1 : 3 ; row 1, 1, 0 : 4 ; "
    "row 0, 0, 0 : 5 ; row 0, 0, 1 : 6 ; row 0, 0, 0 : 7 ; row 0, 1, 1 : 8 ; row 1, 0, 1 : 9 ; "
    "row 1, 1, 0 : 10 ; row 0, 1, 1 : 11 ; row 0, 0, 0 : 12 ; ask a ; ask b times 3 ;"
)


def codes_of(text):
    """Bytes of a text; a list is taken to be bytes already."""
    return list(text) if isinstance(text, list) else list(text.encode("ascii"))


def load(text):
    codes = codes_of(text)
    return [0, len(codes)] + codes


def wish(*groupings):
    return [2, len(groupings)] + list(groupings)


def split(told):
    """The answers one by one, without the counts ahead of them."""
    found = []
    place = 0
    while place < len(told):
        end = place + 1 + told[place]
        assert end <= len(told), told
        found.append(told[place + 1:end])
        place = end
    return found


def run(*calls):
    return split(answers([number for call in calls for number in call]))


def load_answer(text):
    return run(load(text))[0]


def form_of(text):
    """The one form of a table's text, as a text."""
    loaded, shown = run(load(text), SHOWN)
    assert loaded[0] == 1, loaded
    assert shown[0] == len(shown) - 1, shown
    return bytes(shown[1:]).decode("ascii")


def table_text(width, rows):
    """A text for rows that are tuples of values."""
    lines = ["columns " + ", ".join("abcd"[:width]) + " ;"]
    for row in rows:
        lines.append("row " + ", ".join([str(number) for number in row]) + " : 1 ;")
    return "\n".join(lines)
