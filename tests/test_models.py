"""Many small books, compared with the literal reading in models.py."""

import random
import unittest

from leastimage.chains import is_chain, is_step
from leastimage.closure import Closure, needs_of
from leastimage.errors import UnknownPlace
from leastimage.needs import is_need
from leastimage.stretches import greatest_stretch, points, stretch

import models

RULES = ["root", "keep", "reference", "drawn", "stub", "data", "far"]


def tries(many, seed):
    """Books with roots and reaches, and the random numbers that they come from."""
    for at in range(many):
        chance = random.Random(seed * 100000 + at)
        book = models.random_book(chance, "abcdefgh"[: chance.randint(2, 8)], chance.choice([2, 3, 4]))
        yield chance, book, models.random_roots(chance, book), chance.choice([4, 5, 6, 8, 10, 15, 25, 40])


def bent(chance, step, needs):
    """A step with one item changed, or none."""
    items = list(step)
    at = chance.randrange(5)
    if at == 0:
        items[0] = chance.choice(needs)
    elif at == 1:
        items[1] = chance.choice(RULES)
    elif at == 2 and chance.random() < 0.5:
        items[2] = tuple(need for need in step[2] if chance.random() < 0.8)
    elif at == 2:
        items[2] = tuple(sorted({*step[2], *chance.sample(needs, chance.randint(1, min(3, len(needs))))}))
    elif at == 3:
        items[3] = chance.choice([None, *range(16)])
    return tuple(items)


class ModelTest(unittest.TestCase):
    def test_answers_and_targets(self):
        for _, book, _, _ in tries(150, 1):
            for name in "abcdefghi":
                told = models.answer(book, name)
                self.assertEqual(book.answer(name), told and told[0], book.text())
            self.assertEqual(book.known(), models.known(book), book.text())
            told = models.references(book)
            places = [(*key, at) for key, _, at, _, _, _ in told]
            self.assertEqual([(*key, at) for key in book.ranked() for at in book.references(key)], places)
            self.assertEqual([book.target(place) for place in places], [found[4] for found in told])
            self.assertEqual([book.behind(place) for place in places], [found[5] for found in told])
            self.assertTrue(all(is_need(book, need) for need in models.all_needs(book)))

    def test_stretches_of_sets_of_needs(self):
        for chance, book, _, _ in tries(100, 2):
            needs = models.all_needs(book)
            needs = chance.sample(needs, chance.randint(0, len(needs)))
            self.assertEqual(points(book, needs), [point for point, _, _ in models.code(book, needs)])
            for place in [need[1:] for need in models.all_needs(book) if need[0] == "long"]:
                told = [models.stretch(book, needs, place, start) for start in range(16)]
                if told[0] is None:
                    self.assertRaises(UnknownPlace, stretch, book, needs, place, 0)
                    self.assertRaises(UnknownPlace, greatest_stretch, book, needs, place)
                else:
                    self.assertEqual([stretch(book, needs, place, start) for start in range(16)], told)
                    self.assertEqual(greatest_stretch(book, needs, place), (max(told), told.index(max(told))))

    def test_ready_needs_and_the_least_set(self):
        for chance, book, roots, reach in tries(80, 3):
            told = models.least(book, roots, reach)
            self.assertEqual(needs_of(book, roots, reach=reach), told, (book.text(), roots, reach))
            closure = Closure(book, roots, reach=reach)
            while not closure.finished:
                held = set(closure.needs())
                self.assertEqual(closure.ready(), sorted(models.given(book, roots, reach, held) - held))
                closure.add(chance.choice(closure.ready()))
            self.assertEqual(closure.needs(), told)
            self.assertTrue(is_chain(book, roots, list(closure.walk()), reach=reach) or not told)

    def test_steps_right_and_bent(self):
        found = {True: 0, False: 0}
        for chance, book, roots, reach in tries(150, 4):
            closure = Closure(book, roots, reach=reach)
            closure.finish()
            for step in closure.walk():
                self.assertTrue(models.is_right(book, roots, reach, step), step)
                for _ in range(10):
                    other = bent(chance, step, models.all_needs(book))
                    told = models.is_right(book, roots, reach, other)
                    found[told] += 1
                    self.assertEqual(is_step(book, roots, other, reach=reach), told, (book.text(), other))
        self.assertGreater(min(found.values()), 500)


if __name__ == "__main__":
    unittest.main()
