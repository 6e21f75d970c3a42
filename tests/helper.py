"""Builders of calls and of far bytes, for the tests."""

from screenviewer.feeding import feed
from screenviewer.session import Session
from screenviewer.viewer import answers

VERSION = list(b"RFB 003.008\n")
GREETING_SENT = VERSION + [1, 1]
CODINGS_SENT = [2, 0, 0, 5] + [0, 0, 0, 1] + [0, 0, 0, 5] + [0, 0, 0, 4] + [0, 0, 0, 2] + [0, 0, 0, 0]
BEGIN = [0]
TOLD = [7]


def number(value, size):
    return list(value.to_bytes(size, "big"))


def numbers(values, size=2):
    return [byte for value in values for byte in number(value, size)]


def come(data):
    return [1, len(data)] + list(data)


def output(most=65536):
    return [2, most]


def key(code, down):
    return [3, code, down]


def point(x, y, buttons):
    return [4, x, y, buttons]


def row(y, most=1024):
    return [5, y, most]


def cut(most=65536):
    return [6, most]


def answered(*calls):
    """What each call answers, one list a call."""
    flat = answers([word for call in calls for word in call])
    given = []
    at = 0
    while at < len(flat):
        given.append(flat[at + 1:at + 1 + flat[at]])
        at += 1 + flat[at]
    assert at == len(flat) and len(given) == len(calls)
    return given


def agree(test, found, expected):
    """As assertEqual, for long lists: a whole account of how such lists differ may take hours to write."""
    for at, (one, other) in enumerate(zip(found, expected)):
        if one != other:
            test.fail(f"at {at}: {str(one)[:300]} is not {str(other)[:300]}")
    test.assertEqual(len(found), len(expected))


def form(bits=8, high_first=0, by_parts=0, greatest=(0, 0, 0), shifts=(0, 0, 0)):
    return [bits, 77, high_first, by_parts] + numbers(greatest) + list(shifts) + [7, 8, 9]


PARTS_8 = form(8, 0, 1, (7, 7, 3), (0, 3, 6))
PARTS_16_LOW = form(16, 0, 1, (31, 63, 31), (11, 5, 0))
PARTS_16_HIGH = form(16, 1, 1, (31, 63, 31), (11, 5, 0))
PARTS_32_LOW = form(32, 0, 1, (255, 255, 255), (16, 8, 0))
PARTS_32_HIGH = form(32, 9, 200, (255, 255, 255), (16, 8, 0))
FORMS = (form(), PARTS_8, PARTS_16_LOW, PARTS_16_HIGH, PARTS_32_LOW, PARTS_32_HIGH)


def before_size():
    return VERSION + [1, 1] + [0, 0, 0, 0]


def greeting(columns=4, rows=3, far_form=None, name=b""):
    """All that comes up to the end of 4."""
    if far_form is None:
        far_form = form()
    return before_size() + numbers((columns, rows)) + far_form + number(len(name), 4) + list(name)


def asked(changed, columns, rows):
    return [3, changed, 0, 0, 0, 0] + numbers((columns, rows))


def sent_by_greeting(columns=4, rows=3):
    return GREETING_SENT + CODINGS_SENT + asked(0, columns, rows)


def update(*rectangles):
    return [0, 99] + number(len(rectangles), 2) + [byte for rectangle in rectangles for byte in rectangle]


def rectangle(left, top, width, height, coding, rest=()):
    return numbers((left, top, width, height)) + number(coding, 4) + list(rest)


def table(first, colours):
    return [1, 99] + numbers((first, len(colours))) + [byte for colour in colours for byte in numbers(colour)]


# A table by which each pixel stands for a grey of its own, so that the rows that are answered tell the pixels.
GREYS = [1, 0, 0, 0, 1, 0] + numbers([256 * value for value in range(256) for part in range(3)])


def grey(value):
    return 65793 * value


def cut_text(text):
    return [3, 1, 2, 3] + number(len(text), 4) + list(text)


def pixel(value, far_form):
    return list(value.to_bytes(far_form[0] // 8, "big" if far_form[2] else "little"))


def pixels(values, far_form):
    return [byte for value in values for byte in pixel(value, far_form)]


def seen(rows, *pieces):
    """The colours of the first rows after these pieces, each row as it's answered without its count."""
    found = answered(BEGIN, *[come(piece) for piece in pieces], *[row(y) for y in range(rows)])[-rows:]
    assert all(one[0] == len(one) - 1 for one in found), found
    return [one[1:] for one in found]


def seen_pixels(rows, *pieces):
    """The pixels of the first rows, where the GREYS have come."""
    return [[colour // 65793 for colour in one] for one in seen(rows, *pieces)]


# Far bytes that end in each of the wrongs, and how many columns and rows there are then.
ENDS = {
    1: (list(b"RFB 003.009\n"), 0, 0),
    2: (VERSION + [0], 0, 0),
    3: (VERSION + [2, 2, 0], 0, 0),
    4: (VERSION + [1, 1, 0, 0, 1, 0], 0, 0),
    5: (before_size() + numbers((5, 0)), 0, 0),
    6: (greeting(5, 2, name=b"far") + [4], 5, 2),
    7: (greeting(5, 2, name=b"far") + update(rectangle(0, 0, 6, 1, 0)), 5, 2),
}


def session_after(*pieces):
    """A viewer to which these pieces have come, to look at what it holds."""
    session = Session()
    for piece in pieces:
        feed(session, list(piece))
    return session


def byte_by_byte(data):
    return [[byte] for byte in data]


def standings(ahead, words):
    """How it stands at each byte of the words, when what is ahead has come in one piece."""
    session = session_after(ahead)
    found = []
    for byte in words:
        feed(session, [byte])
        found.append(session.standing())
    return found
