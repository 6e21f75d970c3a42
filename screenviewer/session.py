"""One viewer: what it holds, what it awaits, and what waits to be sent."""

from screenviewer.wire import number_bytes

MOST_WAITING = 65536
COUNTS = 2147483648
COLOURS = 256
ALL = 0
CHANGED = 1


class Session:
    def __init__(self):
        self.stage = "version"
        self.need = 12
        self.pending = []
        self.waiting = []
        self.wrong = 0
        self.greeted = False
        # The far size and form come ahead of the screen, which is there only once the name is.
        self.far_columns = 0
        self.far_rows = 0
        self.form = None
        self.columns = 0
        self.rows = 0
        self.screen = []
        self.table = []
        self.first_colour = 0
        self.rectangle = None
        self.rectangles_left = 0
        self.bells = 0
        self.updates = 0
        self.cut_text = []
        self.name = []

    def expect(self, stage, need):
        self.stage = stage
        self.need = need

    def fail(self, number):
        self.wrong = number

    def standing(self):
        if self.wrong != 0:
            return -10 - self.wrong
        return 1 if self.greeted else 0

    def send(self, message):
        if len(self.waiting) + len(message) <= MOST_WAITING:
            self.waiting.extend(message)

    def ask_for(self, what):
        self.send([3, what, 0, 0, 0, 0] + number_bytes(self.columns, 2) + number_bytes(self.rows, 2))

    def fetch(self, most):
        fetched = self.waiting[:most]
        self.waiting = self.waiting[most:]
        return fetched

    def count_bell(self):
        self.bells = (self.bells + 1) % COUNTS

    def count_update(self):
        self.updates = (self.updates + 1) % COUNTS
