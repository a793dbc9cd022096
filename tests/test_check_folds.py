"""The check of papers on folds."""

import random
import unittest
from itertools import product

from common import BLOCK, ELL, ODD, RING, ROW, AlwaysEqual, Checks, OwnList, grown_rooms
from test_folds import BAY, CORNER, ROWS, folded_pairs, is_fold

from neverhit.check_folds import shows_fold
from neverhit.errors import BadRoom, Misfit
from neverhit.folds import Fold, NoFold, folds_of, folds_onto
from neverhit.papers import Denial, Paper
from neverhit.rooms import Room


class CheckOfFolds(Checks):

    def test_by_hand(self):
        self.assertIs(True, shows_fold(BAY, CORNER, Fold(ROWS)))
        self.assertIs(True, shows_fold(value=Fold([list(pair) for pair in ROWS]), ground=CORNER, room=BAY))
        self.assertIs(False, shows_fold(BAY, CORNER, NoFold()))
        self.assertIs(True, shows_fold(CORNER, BAY, NoFold()))
        self.assertIs(False, shows_fold(CORNER, BAY, Fold(())))
        self.assertIs(True, shows_fold(CORNER, Room([(0, 0)]), Fold(((0, 2), (0, 0), OwnList((0, 3))))))

    def test_what_is_told_is_right(self):
        for room, ground in folded_pairs():
            told = folds_onto(room, ground)
            self.assertIs(True, shows_fold(room, ground, told))
            self.assertIs(False, shows_fold(room, ground, NoFold()))

    def test_any_fold_is_right_and_no_other_rows(self):
        chance = random.Random(120)
        rooms = [room for room in grown_rooms(121, 60, (1,)) if room.many < 4]
        seen = {True: 0, False: 0}
        for _ in range(40):
            room, ground = chance.choice(rooms), chance.choice(rooms)
            for rows in product(list(product(range(ground.many), range(4))), repeat=room.many):
                wanted = is_fold(room, ground, rows)
                self.assertIs(wanted, shows_fold(room, ground, Fold(rows)))
                seen[wanted] += 1
            self.assertIs(not folds_of(room, ground), shows_fold(room, ground, NoFold()))
        self.assertGreater(seen[True], 40)

    def test_bent_in_one_pair(self):
        for room, ground in ((BAY, CORNER), (Room(ROW), Room([(0, 0)])), (Room(RING), Room([(0, 0)])),
                             (Room(BLOCK), Room(BLOCK))):
            for rows in folds_of(room, ground):
                for at, (square, copy) in enumerate(rows):
                    for pair in ((square, copy ^ 1), (square, copy ^ 2), (square + 1, copy), (square, copy + 4),
                                 (square, -1), (square,), (square, copy, 0), None, AlwaysEqual(), (square, AlwaysEqual())):
                        self.assertIs(False, shows_fold(room, ground, Fold(rows[:at] + (pair,) + rows[at + 1:])))
                self.assertIs(False, shows_fold(room, ground, Fold(rows[:-1])))
                self.assertIs(False, shows_fold(room, ground, Fold(rows + rows[-1:])))
                self.assertIs(False, shows_fold(room, ground, Fold((rows,))))

    def test_true_and_one_and_a_half_are_no_numbers(self):
        ground = Room([(0, 0)])
        self.assertIs(True, shows_fold(ground, ground, Fold([(0, 1)])))
        for pair in ((0, True), (False, 1), (0, 1.0), (0.0, 1), (0, "1"), "01", b"01"):
            self.assertIs(False, shows_fold(ground, ground, Fold([pair])))

    def test_other_values(self):
        for value in ODD + (ROWS, [ROWS], Paper("fold", ROWS), Denial("nofold"), Fold, NoFold, AlwaysEqual()):
            self.assertIs(False, shows_fold(BAY, CORNER, value))
            self.assertIs(False, shows_fold(CORNER, BAY, value))
            self.assertIs(False, shows_fold(BAY, CORNER, Fold(value)) and value != ROWS)
        self.assertIs(False, shows_fold(CORNER, BAY, Denial("nofold")))

    def test_errors(self):
        self.assert_bad(BadRoom, "room", ODD + (5,), lambda value: shows_fold(value, None, None))
        self.assert_bad(BadRoom, "ground", ODD + (5,), lambda value: shows_fold(BAY, value, None))
        self.assert_raises(Misfit, "ground", lambda: shows_fold(BAY, Room(ELL, fine=2), Fold(ROWS)))
        self.assert_raises(Misfit, "ground", lambda: shows_fold(BAY, Room(ELL, fine=2), NoFold()))


if __name__ == "__main__":
    unittest.main()
