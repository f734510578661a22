"""[h6]: wrong readings, and the writes that come into the memory."""

import unittest

from foretask.publishing import first_wrong, publish
from foretask.runs import begun
from foretask.steps import beginning
from tests.support import FALSE, NONE, THING, TRUE, Case, integer, text_value

RUN = begun(beginning())
P0 = ((), 0, 0)
P1 = ((), 0, 1)
P2 = ((0, 1), 2, 0)


class TestFirstWrong(Case):
    def check(self, pairs, wanted):
        memory = {P0: integer(1), P2: THING}
        readings = tuple((place, value, RUN) for place, value in pairs)
        with self.subTest(pairs=pairs):
            self.assertEqual(first_wrong(readings, memory), wanted)
            self.assertEqual(memory, {P0: integer(1), P2: THING})

    def test_none_is_wrong(self):
        self.check((), -1)
        self.check(((P0, integer(1)),), -1)
        self.check(((P0, integer(1)), (P2, THING), (P1, NONE), (P0, integer(1))), -1)

    def test_wrong_readings(self):
        right = ((P0, integer(1)), (P2, THING), (P1, NONE))
        for place, value in ((P0, integer(2)), (P0, NONE), (P0, TRUE), (P0, text_value("1")), (P1, integer(0)), (P1, FALSE),
                             (P2, NONE), (P2, ("object", (0, 2), 4)), (P2, ("object", (0,), 3))):
            for at in range(4):
                pairs = right[:at] + ((place, value),) + right[at:]
                self.check(pairs, at)
                self.check(pairs + ((place, value), (P0, integer(9))), at)

    def test_the_same_place_twice(self):
        self.check(((P0, integer(1)), (P0, integer(2))), 1)
        self.check(((P0, integer(2)), (P0, integer(1))), 0)


class TestPublish(Case):
    def check(self, writes, wanted):
        memory = {P0: integer(1), P2: THING}
        publish(memory, writes)
        self.assertEqual(memory, wanted)

    def test_writes(self):
        self.check((), {P0: integer(1), P2: THING})
        self.check(((P0, integer(2)),), {P0: integer(2), P2: THING})
        self.check(((P1, TRUE), (P2, text_value("a"))), {P0: integer(1), P1: TRUE, P2: text_value("a")})
        self.check(((P1, integer(0)), (P0, FALSE)), {P0: FALSE, P1: integer(0), P2: THING})

    def test_writes_of_none(self):
        self.check(((P0, NONE),), {P2: THING})
        self.check(((P1, NONE),), {P0: integer(1), P2: THING})
        self.check(((P1, NONE), (P2, NONE), (P0, integer(3))), {P0: integer(3)})


if __name__ == "__main__":
    unittest.main()
