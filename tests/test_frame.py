import unittest

from elsewhere.frame import closed, is_frame
from tests.samples import frames


class IsFrame(unittest.TestCase):
    def test_frames(self):
        for frame in (
            (1, ()), (1, ((0, 0),)), (2, ()), (2, ((0, 1),)), (2, ((0, 0), (0, 1), (1, 0), (1, 1))),
            (3, ((0, 2), (1, 0), (2, 1))), (12, ((2, 10), (10, 2), (11, 11))), (10 ** 30, ((0, 10 ** 29),)),
        ):
            self.assertIs(is_frame(frame), True, frame)
        for worlds in (1, 2, 3):
            self.assertTrue(all(is_frame(frame) for frame in frames(worlds)))

    def test_no_world(self):
        for worlds in (0, -1, -3):
            self.assertIs(is_frame((worlds, ())), False)
        self.assertIs(is_frame((0, ((0, 0),))), False)

    def test_worlds_that_do_not_exist(self):
        for pair in ((0, 2), (2, 0), (5, 5), (-1, 0), (0, -1), (-1, -1), (0, 10 ** 30)):
            self.assertIs(is_frame((2, (pair,))), False, pair)
        self.assertIs(is_frame((2, ((0, 0), (0, 1), (1, 2)))), False)
        self.assertIs(is_frame((2, ((-1, 0), (0, 1)))), False)

    def test_pairs_that_do_not_ascend(self):
        for pairs in (((0, 1), (0, 1)), ((0, 1), (0, 0)), ((1, 0), (0, 1)), ((0, 0), (1, 1), (1, 0)),
                      ((0, 0), (0, 1), (0, 1))):
            self.assertIs(is_frame((2, pairs)), False, pairs)

    def test_other_values(self):
        for value in (
            [1, ()], (1, []), (1, ([0, 0],)), (1, ((0,),)), (2, ((0, 1, 1),)), (1,), (1, (), ()), (True, ()),
            (1, ((0, False),)), ("1", ()), (2, (("0", 1),)), None, 1, (), ((), 1), (2, (0, 1)), (1, None),
        ):
            self.assertIs(is_frame(value), False, value)


def by_closing_step_by_step(frame, reflexive, transitive):
    worlds, pairs = frame
    found = set(pairs)
    if reflexive:
        found |= {(v, v) for v in range(worlds)}
    while transitive:
        more = {(u, w) for u, v in found for x, w in found if x == v} - found
        if not more:
            break
        found |= more
    return (worlds, tuple(sorted(found)))


class Closed(unittest.TestCase):
    def test_the_four_choices(self):
        frame = (3, ((0, 1), (1, 2)))
        self.assertEqual(closed(frame, False, False), frame)
        self.assertEqual(closed(frame, True, False), (3, ((0, 0), (0, 1), (1, 1), (1, 2), (2, 2))))
        self.assertEqual(closed(frame, False, True), (3, ((0, 1), (0, 2), (1, 2))))
        self.assertEqual(closed(frame, True, True), (3, ((0, 0), (0, 1), (0, 2), (1, 1), (1, 2), (2, 2))))
        self.assertEqual(frame, (3, ((0, 1), (1, 2))))

    def test_circles(self):
        self.assertEqual(closed((2, ((0, 1), (1, 0))), False, True), (2, ((0, 0), (0, 1), (1, 0), (1, 1))))
        self.assertEqual(closed((2, ((0, 1), (1, 0))), True, False), (2, ((0, 0), (0, 1), (1, 0), (1, 1))))
        self.assertEqual(len(closed((40, tuple((v, (v + 1) % 40) for v in range(40))), False, True)[1]), 1600)

    def test_no_pairs(self):
        self.assertEqual(closed((2, ()), False, True), (2, ()))
        self.assertEqual(closed((2, ()), True, True), (2, ((0, 0), (1, 1))))

    def test_all_small_frames(self):
        for worlds in (1, 2, 3):
            for frame in frames(worlds):
                for reflexive in (False, True):
                    for transitive in (False, True):
                        found = closed(frame, reflexive, transitive)
                        self.assertTrue(is_frame(found))
                        self.assertEqual(found, by_closing_step_by_step(frame, reflexive, transitive))

    def test_long_chains(self):
        frame = (500, tuple((v, v + 1) for v in range(499)))
        self.assertEqual(len(closed(frame, False, True)[1]), 500 * 499 // 2)
