"""Far bytes made at random (always the same ones), told to the viewer and to a plain model of the document."""

import random
import unittest

from screenviewer.feeding import feed
from screenviewer.session import Session
from tests.helper import FORMS, VERSION, cut_text, greeting, number, numbers, rectangle, table


class WrongWords(Exception):
    pass


class Model:
    """Reads byte by byte as one long story: each yield awaits so many bytes."""

    def __init__(self):
        self.stands = 0
        self.sent = []
        self.columns = self.rows = self.bells = self.updates = 0
        self.screen = {}
        self.table = []
        self.cut_text = self.name = []
        self.story = self.tell()
        self.need = next(self.story)
        self.held = []

    def come(self, data):
        for byte in data:
            if self.stands < 0:
                return
            self.held.append(byte)
            self.go_on()

    def go_on(self):
        try:
            while len(self.held) == self.need:
                words, self.held = self.held, []
                self.need = self.story.send(words)
        except WrongWords as wrong:
            self.stands = -10 - wrong.args[0]

    def send(self, words):
        if len(self.sent) + len(words) <= 65536:
            self.sent += words

    def check(self, good, wrong):
        if not good:
            raise WrongWords(wrong)

    def read(self, *sizes):
        words = yield sum(sizes)
        values = []
        for size in sizes:
            values.append(int.from_bytes(bytes(words[:size]), "big"))
            words = words[size:]
        return values

    def tell(self):
        words = yield 12
        self.check(words == VERSION, 1)
        self.send(words)
        [many] = yield from self.read(1)
        self.check(many, 2)
        self.check(1 in (yield many), 3)
        self.send([1])
        [refused] = yield from self.read(4)
        self.check(not refused, 4)
        self.send([1])
        size = yield from self.read(2, 2)
        self.check(all(0 < side < 1025 for side in size), 5)
        self.form = yield 16
        self.check(self.good_form(), 5)
        [length] = yield from self.read(4)
        self.check(length <= 65536, 5)
        self.name = yield length
        self.columns, self.rows = size
        self.screen = {(x, y): 0 for x in range(self.columns) for y in range(self.rows)}
        self.table = [(0, 0, 0)] * 256
        self.stands = 1
        self.send([2, 0, 0, 5] + numbers((1, 5, 4, 2, 0), 4))
        self.send([3, 0, 0, 0, 0, 0] + numbers(size))
        while True:
            [kind] = yield from self.read(1)
            self.check(kind < 4, 6)
            yield from (self.an_update, self.a_table, self.a_bell, self.a_cut_text)[kind]()

    def good_form(self):
        bits, by_parts = self.form[0], self.form[3]
        if bits not in (8, 16, 32) or not by_parts:
            return bits == 8
        for part in range(3):
            greatest = self.form[4 + 2 * part] * 256 + self.form[5 + 2 * part]
            if greatest not in [2 ** width - 1 for width in range(1, 9)]:
                return False
            if greatest << self.form[10 + part] >= 1 << bits:
                return False
        return True

    def a_bell(self):
        self.bells += 1
        yield from ()

    def a_table(self):
        yield 1
        first, many = yield from self.read(2, 2)
        self.check(not self.form[3] and first + many <= 256, 6)
        values = yield from self.read(*[2] * 3 * many)
        for at in range(many):
            self.table[first + at] = tuple(values[3 * at:3 * at + 3])

    def a_cut_text(self):
        yield 3
        [length] = yield from self.read(4)
        self.check(length <= 65536, 6)
        self.cut_text = yield length

    def an_update(self):
        yield 1
        [many] = yield from self.read(2)
        for at in range(many):
            x, y, width, height, coding = yield from self.read(2, 2, 2, 2, 4)
            self.check(x + width <= self.columns and y + height <= self.rows and coding in (0, 1, 2, 4, 5), 7)
            story = {0: self.plain, 1: self.copied, 2: self.parts, 4: self.small_parts, 5: self.tiles}[coding]
            drawn = yield from story(width, height)
            self.screen.update({(x + dx, y + dy): value for (dx, dy), value in drawn.items()})
        self.updates += 1
        self.send([3, 1, 0, 0, 0, 0] + numbers((self.columns, self.rows)))

    def pixel(self):
        words = yield self.form[0] // 8
        return int.from_bytes(bytes(words), "big" if self.form[2] else "little")

    def plain(self, width, height):
        drawn = {}
        for y in range(height):
            for x in range(width):
                drawn[x, y] = yield from self.pixel()
        return drawn

    def copied(self, width, height):
        left, top = yield from self.read(2, 2)
        self.check(left + width <= self.columns and top + height <= self.rows, 7)
        return {(x, y): self.screen[left + x, top + y] for x in range(width) for y in range(height)}

    def block(self, x, y, width, height, value):
        return {(dx, dy): value for dx in range(x, x + width) for dy in range(y, y + height)}

    def parts(self, width, height, size=2):
        [many] = yield from self.read(4)
        self.check(many <= 65535, 7)
        drawn = self.block(0, 0, width, height, (yield from self.pixel()))
        for at in range(many):
            value = yield from self.pixel()
            x, y, wide, high = yield from self.read(*[size] * 4)
            self.check(x + wide <= width and y + high <= height, 7)
            drawn.update(self.block(x, y, wide, high, value))
        return drawn

    def small_parts(self, width, height):
        return self.parts(width, height, 1)

    def tiles(self, width, height):
        drawn = {}
        grounds = [0, 0]
        for top in range(0, height, 16):
            for left in range(0, width, 16):
                tile = yield from self.tile(min(16, width - left), min(16, height - top), grounds)
                drawn.update({(left + x, top + y): value for (x, y), value in tile.items()})
        return drawn

    def tile(self, width, height, grounds):
        [bits] = yield from self.read(1)
        if bits & 1:
            return (yield from self.plain(width, height))
        for which in range(2):
            if bits & (2 << which):
                grounds[which] = yield from self.pixel()
        drawn = self.block(0, 0, width, height, grounds[0])
        many = 0
        if bits & 8:
            [many] = yield from self.read(1)
        for at in range(many):
            value = (yield from self.pixel()) if bits & 16 else grounds[1]
            place, extent = yield from self.read(1, 1)
            x, y, wide, high = place // 16, place % 16, extent // 16 + 1, extent % 16 + 1
            self.check(x + wide <= width and y + high <= height, 7)
            drawn.update(self.block(x, y, wide, high, value))
        return drawn


class Maker:
    def __init__(self, seed):
        self.dice = random.Random(seed)
        self.form = self.dice.choice(FORMS)
        self.columns = self.dice.choice((1, 3, 16, 17, 33, 40))
        self.rows = self.dice.choice((1, 2, 16, 18, 35))

    def some(self, many):
        return [self.dice.randrange(256) for at in range(many)]

    def pixels(self, many=1):
        return self.some(many * self.form[0] // 8)

    def place(self, width, height):
        wide = self.dice.randint(0, width)
        high = self.dice.randint(0, height)
        return self.dice.randint(0, width - wide), self.dice.randint(0, height - high), wide, high

    def rectangle(self):
        x, y, wide, high = self.place(self.columns, self.rows)
        coding = self.dice.choice((0, 1, 2, 4, 5, 5))
        return rectangle(x, y, wide, high, coding, self.rest(coding, wide, high))

    def rest(self, coding, wide, high):
        if coding == 0:
            return self.pixels(wide * high)
        if coding == 1:
            return numbers((self.dice.randint(0, self.columns - wide), self.dice.randint(0, self.rows - high)))
        if coding == 5:
            return [byte for top in range(0, high, 16) for left in range(0, wide, 16)
                    for byte in self.tile(min(16, wide - left), min(16, high - top))]
        many = self.dice.randrange(4)
        words = number(many, 4) + self.pixels()
        for at in range(many):
            words += self.pixels() + numbers(self.place(wide, high), 2 if coding == 2 else 1)
        return words

    def tile(self, width, height):
        bits = self.dice.randrange(256) if self.dice.random() < 0.3 else self.dice.randrange(16) * 2
        if bits & 1:
            return [bits] + self.pixels(width * height)
        words = [bits] + self.pixels((bits >> 1 & 1) + (bits >> 2 & 1))
        if bits & 8:
            many = self.dice.randrange(4)
            words.append(many)
            for at in range(many):
                wide, high = self.dice.randint(1, width), self.dice.randint(1, height)
                place = self.dice.randint(0, width - wide) * 16 + self.dice.randint(0, height - high)
                words += self.pixels() if bits & 16 else []
                words += [place, (wide - 1) * 16 + high - 1]
        return words

    def message(self):
        kind = self.dice.choice((0, 0, 0, 1, 2, 3))
        if kind == 1 and not self.form[3]:
            first = self.dice.randrange(250)
            return table(first, [[self.dice.randrange(65536) for part in range(3)] for at in range(self.dice.randrange(6))])
        if kind == 3:
            return cut_text(self.some(self.dice.randrange(9)))
        if kind == 0:
            many = self.dice.randrange(4)
            return [0, 0] + number(many, 2) + [byte for at in range(many) for byte in self.rectangle()]
        return [2]

    def far(self):
        words = greeting(self.columns, self.rows, self.form, bytes(self.some(self.dice.randrange(5))))
        for at in range(self.dice.randrange(12)):
            words += self.message()
        for at in range(self.dice.choice((0, 0, 1, 8))):
            place = self.dice.randrange(len(words))
            words[place] = self.dice.choice((0, 1, 255, self.dice.randrange(256)))
        return words

    def pieces(self, words):
        found = []
        longest = self.dice.choice((1, 5, 60, 4000))
        while words:
            many = self.dice.randint(0, longest)
            found.append(words[:many])
            words = words[many:]
        return found


class RandomTest(unittest.TestCase):
    def check(self, session, model):
        self.assertEqual(session.standing(), model.stands)
        self.assertEqual(session.waiting, model.sent)
        self.assertEqual((session.columns, session.rows), (model.columns, model.rows))
        self.assertEqual((session.bells, session.updates), (model.bells, model.updates))
        self.assertEqual((session.name, session.cut_text), (model.name, model.cut_text))
        self.assertEqual(session.table, model.table)

    def check_screen(self, session, model):
        expected = [[model.screen[x, y] for x in range(model.columns)] for y in range(model.rows)]
        self.assertEqual(session.screen, expected)

    def test_as_the_model_tells(self):
        stands = {}
        for seed in range(1000):
            maker = Maker(seed)
            session, model = Session(), Model()
            with self.subTest(seed=seed):
                for piece in maker.pieces(maker.far()):
                    feed(session, piece)
                    model.come(piece)
                    self.check(session, model)
                self.check_screen(session, model)
            stands[model.stands] = stands.get(model.stands, 0) + 1
        # Without these the test would say little.
        self.assertEqual(sorted(stands), list(range(-17, -10)) + [0, 1])
        self.assertGreater(stands[1], 300)
        self.assertGreater(stands[-17], 30)


if __name__ == "__main__":
    unittest.main()
