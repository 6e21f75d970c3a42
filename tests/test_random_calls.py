"""Calls made at random (always the same ones), answered by the viewer and by a plain model of the document."""

import unittest

from tests.helper import BEGIN, TOLD, agree, answered, come, cut, key, number, numbers, output, point, row
from tests.test_random import Maker, Model

EDGES = (-2147483648, -1, 0, 1, 2, 255, 256, 1022, 1023, 1024, 1025, 65535, 65536, 65537, 2147483647)


class CallModel:
    """What the document says of each call, told of the model of the bytes."""

    def __init__(self):
        self.model = Model()

    def answer(self, call):
        kind, *words = call
        return (self.begin, self.input, self.output, self.key, self.point, self.row, self.cut, self.told)[kind](*words)

    def begin(self):
        self.model = Model()
        return [0]

    def input(self, many, *data):
        self.model.come(data)
        return [self.model.stands]

    def output(self, most):
        if most not in range(65537):
            return [-2]
        sent, self.model.sent = self.model.sent[:most], self.model.sent[most:]
        return [len(sent)] + sent

    def key(self, code, down):
        if down not in (0, 1):
            return [-2]
        return self.send([4, down, 0, 0] + number(code, 4))

    def point(self, x, y, buttons):
        if x not in range(1024) or y not in range(1024) or buttons not in range(256):
            return [-2]
        return self.send([5, buttons] + numbers((x, y)))

    def send(self, words):
        if self.model.stands != 1:
            return [-3]
        self.model.send(words)
        return [0]

    def row(self, y, most):
        if y not in range(1024) or most not in range(1025):
            return [-2]
        if y >= self.model.rows:
            return [-3]
        if most < self.model.columns:
            return [-1]
        return [self.model.columns] + [self.colour(self.model.screen[x, y]) for x in range(self.model.columns)]

    def colour(self, value):
        form = self.model.form
        if not form[3]:
            parts = [part >> 8 for part in self.model.table[value]]
        else:
            parts = []
            for place in range(3):
                greatest = int.from_bytes(bytes(form[4 + 2 * place:6 + 2 * place]), "big")
                part = value // 2 ** form[10 + place] % (greatest + 1)
                # The nearest of 255: twice over and under, so that no half is left.
                parts.append((510 * part + greatest) // (2 * greatest))
        return int.from_bytes(bytes(parts), "big")

    def cut(self, most):
        if most not in range(65537):
            return [-2]
        text = self.model.cut_text[:most]
        return [len(text)] + text

    def told(self):
        model = self.model
        lengths = [len(model.cut_text), len(model.name)]
        return [model.stands, model.columns, model.rows, model.bells, model.updates] + lengths


def any_call(maker):
    dice = maker.dice
    edge = dice.choice(EDGES)
    calls = (
        output(dice.choice((3, 20, 65536, edge))),
        key(dice.randrange(1 << 32), dice.choice((0, 1, 1, edge))),
        point(*[dice.choice((dice.randrange(1024), dice.randrange(256), dice.choice(EDGES))) for at in range(3)]),
        point(dice.randrange(1024), dice.randrange(1024), dice.randrange(256)),
        row(dice.choice((dice.randrange(maker.rows), maker.rows, edge)), dice.choice((1024, maker.columns - 1, edge))),
        row(dice.randrange(maker.rows)),
        cut(dice.choice((2, 65536, edge))),
        TOLD,
    )
    return dice.choice(calls)


def some_calls(seed):
    maker = Maker(seed)
    calls = [BEGIN]
    for at in range(maker.dice.choice((1, 1, 2))):
        pieces = maker.pieces(maker.far())
        # Few enough that there are at most 300 calls.
        for piece in pieces[:30] + [sum(pieces[30:], [])]:
            calls.append(come(piece))
            calls += [any_call(maker) for each in range(maker.dice.randrange(3))]
        calls += [row(y) for y in range(maker.rows + 1)] + [cut(), TOLD, output()]
        if maker.dice.random() < 0.3:
            calls.append(BEGIN)
    return calls


class RandomCallsTest(unittest.TestCase):
    def test_as_the_model_answers(self):
        seen = {}
        for seed in range(2000, 3000):
            calls = some_calls(seed)
            self.assertLessEqual(len(calls), 300)
            model = CallModel()
            with self.subTest(seed=seed):
                found = answered(*calls)
                agree(self, found, [model.answer(call) for call in calls])
            for call, answer in zip(calls, found):
                first = min(answer[0], 1)
                seen[call[0], first] = seen.get((call[0], first), 0) + 1
        # Each answer that each call may give has been given, or the test would say little.
        answers_of = {0: [0], 1: [0, 1] + list(range(-17, -10)), 2: [-2, 0, 1], 3: [-3, -2, 0], 4: [-3, -2, 0],
                      5: [-3, -2, -1, 1], 6: [-2, 0, 1], 7: [0, 1] + list(range(-17, -10))}
        self.assertEqual(sorted(seen), sorted((call, first) for call in answers_of for first in answers_of[call]))


if __name__ == "__main__":
    unittest.main()
