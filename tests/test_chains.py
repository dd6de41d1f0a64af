"""Steps and chains: point [18], leastimage/chains.py."""

import unittest

from leastimage.chains import is_chain, is_step
from leastimage.closure import Closure
from leastimage.errors import InvalidReach, InvalidRoots

from common import all_odd_values, book_of, raised

BOOK = book_of(
    "object o; outside x; code a 1 export; call b; call x; name r0 d; jump b; halt; code b 1 local keep; room 20; jump a;",
    "data d 1 local; address b; end;",
    "archive l; object m; code x 1 export; call k; back; code k 1 local keep; back; end; object n; data y 1 weak; end; end",
)
A, B, D = [("live", "o", "", name) for name in "abd"]
X, K = [("live", "l", "m", name) for name in "xk"]
Y = ("live", "l", "n", "y")
DRAWN, OTHER = ("drawn", "l", "m"), ("drawn", "l", "n")
STUB = ("stub", "x")
LONG_B, LONG_X, LONG_D, LONG_JUMP = [("long", "o", "", "a", row) for row in range(4)]
LONG_BACK = ("long", "o", "", "b", 1)
FAR = (LONG_BACK, "far", (A, B), 0)
RIGHT = [
    (A, "root", (), None),
    (B, "keep", (), None),
    (B, "reference", (A,), 0),
    (B, "reference", (A,), 3),
    (B, "reference", (D,), 0),
    (STUB, "stub", (A,), 1),
    (X, "reference", (A,), 1),
    (D, "reference", (A,), 2),
    (LONG_D, "data", (A,), None),
    (A, "reference", (B,), 1),
    (DRAWN, "drawn", (X,), None),
    (DRAWN, "drawn", (K,), None),
    (OTHER, "drawn", (Y,), None),
    (K, "keep", (DRAWN,), None),
    (K, "reference", (X,), 0),
    FAR,
    (LONG_BACK, "far", (A, B), 15),
    (LONG_BACK, "far", (A, B, LONG_B), 7),
]


def step_with(step, **more):
    """A step with some of its items replaced."""
    need, rule, because, at = step
    told = {"need": need, "rule": rule, "because": because, "at": at, **more}
    return (told["need"], told["rule"], told["because"], told["at"])


class IsStepTest(unittest.TestCase):
    def step(self, value, roots=("a",), reach=20, book=BOOK):
        return is_step(book, roots, value, reach=reach)

    def wrong(self, *values, **more):
        for value in values:
            self.assertIs(self.step(value, **more), False, value)

    def test_right_steps(self):
        for step in RIGHT:
            self.assertIs(self.step(step), True, step)
        self.assertIs(is_step(book=BOOK, roots=["a"], value=RIGHT[0]), True)

    def test_root(self):
        self.assertIs(self.step((X, "root", (), None), roots=["x", "a"]), True)
        self.assertIs(self.step((X, "root", (), None), roots=["a", "x"]), True)
        self.wrong((X, "root", (), None), (B, "root", (), None), (D, "root", (), None), (STUB, "root", (), None))
        self.wrong((A, "root", (B,), None), (A, "root", (), 0), (A, "root", (), False), (A, "root", [], None))
        self.wrong((A, "root", (), None), roots=["b"])

    def test_keep(self):
        self.wrong((A, "keep", (), None), (B, "keep", (A,), None), (B, "keep", (), 0), (B, "keep", (DRAWN,), None))
        self.wrong((K, "keep", (), None), (K, "keep", (OTHER,), None), (K, "keep", (X,), None))
        self.wrong((K, "keep", (DRAWN, X), None), (K, "keep", (DRAWN,), 0), (X, "keep", (DRAWN,), None))
        self.wrong((DRAWN, "keep", (), None), (STUB, "keep", (), None), (LONG_D, "keep", (A,), None))

    def test_reference(self):
        self.wrong(*[(B, "reference", (A,), at) for at in (1, 2, 4, 5, -1, None, True, False, "0", [0], (0,), 100)])
        self.wrong((B, "reference", (), 0), (B, "reference", (A, D), 0), (B, "reference", [A], 0))
        self.wrong((B, "reference", (X,), 0), (B, "reference", (STUB,), 0), (B, "reference", (LONG_B,), 0))
        self.wrong((Y, "reference", (A,), 0), (STUB, "reference", (A,), 1), (DRAWN, "reference", (X,), 0))

    def test_a_need_does_not_rest_on_itself(self):
        book = book_of("object o; code a 1 export; jump a; end")
        self.wrong((A, "reference", (A,), 0), book=book)

    def test_stub(self):
        self.wrong(*[(STUB, "stub", (A,), at) for at in (0, 2, 4, 5, -1, None, True, "1", [1])])
        self.wrong((STUB, "stub", (), 1), (STUB, "stub", (A, B), 1), (STUB, "stub", (B,), 1), (STUB, "stub", (X,), 1))
        self.wrong((X, "stub", (A,), 1), (("stub", "b"), "stub", (A,), 0))

    def test_what_is_behind_a_stub(self):
        book = book_of("object o; outside x; code a 1 export; jump x; end; object p; data x 1 export; end")
        self.wrong((("live", "p", "", "x"), "reference", (A,), 0), book=book)
        self.assertIs(self.step((STUB, "stub", (A,), 0), book=book), True)

    def test_drawn(self):
        self.wrong((OTHER, "drawn", (X,), None), (DRAWN, "drawn", (Y,), None), (DRAWN, "drawn", (A,), None))
        self.wrong((DRAWN, "drawn", (), None), (DRAWN, "drawn", (K, X), None), (DRAWN, "drawn", (X,), 0))
        self.wrong((DRAWN, "drawn", (OTHER,), None), (X, "drawn", (K,), None), (DRAWN, "drawn", (STUB,), None))
        book = book_of("object l; code m 1 local; halt; end; archive k; object l; code m 1 local; halt; end; end")
        self.wrong((("drawn", "k", "l"), "drawn", (("live", "l", "", "m"),), None), book=book)
        long = ("long", "l", "m", "x", 0)
        self.wrong((DRAWN, "drawn", (long,), None))

    def test_data(self):
        self.wrong((LONG_D, "data", (), None), (LONG_D, "data", (B,), None), (LONG_D, "data", (A, D), None))
        self.wrong((LONG_D, "data", (A,), 2), (LONG_B, "data", (A,), None), (LONG_X, "data", (A,), None))
        self.wrong((D, "data", (A,), None), (("long", "o", "", "a", False), "data", (A,), None))
        book = book_of("object o; code a 1 export; jump d; data d 1 local; end")
        self.wrong((LONG_B, "data", (A,), None), book=book)

    def test_far(self):
        # From the point of a to the jump in b there are 5 cells and 20 more.
        self.assertIs(self.step(FAR, reach=24), True)
        self.wrong(FAR, reach=25)
        self.assertIs(self.step(step_with(FAR, because=(A, B, LONG_B)), reach=26), True)
        self.wrong(step_with(FAR, because=(A, B, LONG_B)), reach=27)
        self.wrong(*[step_with(FAR, at=at) for at in (None, True, -1, 16, "0", [0], (0,))])
        self.wrong(step_with(FAR, because=(A,)), step_with(FAR, because=(B,)), step_with(FAR, because=()))

    def test_far_from_one_start_and_not_from_another(self):
        book = book_of("object o; code a 1 export; jump c; code b 8 local keep; halt; code c 1 local; halt; end")
        need, because = LONG_B, tuple(("live", "o", "", name) for name in "abc")
        for start in range(16):
            step = (need, "far", because, start)
            self.assertIs(self.step(step, reach=8, book=book), start % 8 == 0)
            self.assertIs(self.step(step, reach=5, book=book), start % 8 < 4)
            # Without the live need of b nothing stands between the two.
            self.assertIs(self.step((need, "far", (because[0], because[2]), start), reach=4, book=book), False)

    def test_far_to_a_stub(self):
        step = (LONG_X, "far", (A, STUB), 3)
        self.assertIs(self.step(step, reach=4), True)
        self.assertIs(self.step(step, reach=5), False)
        self.assertIs(self.step(step_with(step, because=(A, LONG_B, STUB)), reach=6), True)
        self.wrong(step_with(step, because=(A,)), step_with(step, because=(STUB,)), reach=4)

    def test_because_of_far_may_have_more(self):
        for more in ((A, B, STUB), (A, B, D), (A, B, X), (A, B, LONG_X, LONG_D), (A, B, Y, LONG_D, STUB)):
            self.assertIs(self.step(step_with(FAR, because=tuple(sorted(more)))), True)
        self.wrong(step_with(FAR, because=(DRAWN, A, B)))

    def test_references_that_are_never_far(self):
        text = "object o; code a 1 export; name r0 d; room 50; jump d; call gone; jump b; code b 1 local; halt; data d 1 local; end"
        for row in (0, 2, 3):
            for because in ((A,), (A, B), (A, B, D), (A, D)):
                self.wrong((("long", "o", "", "a", row), "far", because, 0), reach=4, book=book_of(text))

    def test_because_is_an_ascending_tuple_of_needs(self):
        for because in ((B, A), (A, A, B), [A, B], (A, B, B), (A, B, "main"), (A, B, None), (A, B, [B]), None, A):
            self.wrong(step_with(FAR, because=because))
        self.wrong(step_with(FAR, because=(A, B, LONG_BACK)))
        self.wrong(step_with(FAR, because=(A, B, ("long", "o", "", "a", False))))
        for step in RIGHT:
            self.wrong(step_with(step, because=list(step[2])), step_with(step, because=None))
            self.wrong(step_with(step, because=step[2] + (step[0],)))

    def test_each_step_bent(self):
        needs = [A, B, D, X, K, Y, DRAWN, OTHER, STUB, LONG_B, LONG_X, LONG_D, LONG_JUMP, LONG_BACK]
        words = ["root", "keep", "reference", "drawn", "stub", "data", "far"]
        for step in RIGHT:
            bent = [step_with(step, need=need) for need in needs if need != step[0]]
            bent += [step_with(step, rule=word) for word in words if word != step[1]]
            bent += [step_with(step, because=because) for because in ((), (A,), (D,), (DRAWN,), (X,), (A, B))]
            bent += [step_with(step, at=at) for at in [None, *range(-1, 17)]]
            for value in bent:
                told = value in RIGHT or (value[1] == "far" and value[0] == LONG_BACK and 0 <= (value[3] or 0) < 16)
                if value[1] == "far" and (value[3] is None or not set(value[2]) >= {A, B}):
                    told = False
                self.assertIs(self.step(value), told, value)

    def test_values_of_other_kinds(self):
        step = RIGHT[0]
        others = [list(step), step[:3], step + (None,), (step,), step[0], "root", (A, ["root"], (), None)]
        others += [(A, None, (), None), (A, "Root", (), None), (A, "", (), None), (list(A), "root", (), None)]
        others += [(None, "root", (), None), (("live", "o", "", "q"), "root", (), None), (A, "root", (), BOOK)]
        self.wrong(*all_odd_values(), *others)


class IsChainTest(unittest.TestCase):
    CHAIN = [
        (A, "root", (), None),
        (STUB, "stub", (A,), 1),
        (X, "reference", (A,), 1),
        (DRAWN, "drawn", (X,), None),
        (B, "keep", (), None),
        (K, "keep", (DRAWN,), None),
        FAR,
    ]

    def chain(self, value, reach=20):
        return is_chain(BOOK, ["a"], value, reach=reach)

    def test_right_chains(self):
        for many in range(1, 8):
            self.assertIs(self.chain(self.CHAIN[:many]), True)
            self.assertIs(self.chain(tuple(self.CHAIN[:many])), True)
        self.assertIs(is_chain(book=BOOK, roots=("a",), value=self.CHAIN[:6]), True)

    def test_steps_left_out(self):
        needed = {0, 2, 3, 4}
        for at in range(7):
            self.assertIs(self.chain(self.CHAIN[:at] + self.CHAIN[at + 1 :]), at not in needed)

    def test_steps_moved(self):
        for at in range(7):
            for to in range(7):
                steps = [step for step in self.CHAIN if step != self.CHAIN[at]]
                steps.insert(to, self.CHAIN[at])
                needs = [step[0] for step in steps]
                told = all(set(step[2]) <= set(needs[:place]) for place, step in enumerate(steps))
                self.assertIs(self.chain(steps), told)
        self.assertIs(self.chain(self.CHAIN[::-1]), False)

    def test_steps_doubled(self):
        for at in range(7):
            self.assertIs(self.chain(self.CHAIN[: at + 1] + self.CHAIN[at:]), True)
        self.assertIs(self.chain([(B, "keep", (), None), (A, "reference", (B,), 1), (B, "reference", (A,), 0)]), True)

    def test_no_step_rests_on_a_circle(self):
        self.assertIs(self.chain([(A, "reference", (B,), 1), (B, "reference", (A,), 0)]), False)

    def test_one_wrong_step(self):
        for at in range(7):
            for bent in (None, self.CHAIN[at][:3], step_with(self.CHAIN[at], at=20), step_with(self.CHAIN[at], rule="x")):
                steps = list(self.CHAIN)
                steps[at] = bent
                self.assertIs(self.chain(steps), False)
        self.assertIs(self.chain(self.CHAIN, reach=25), False)

    def test_values_that_are_no_chains(self):
        others = [[], (), RIGHT[0], [list(RIGHT[0])], [[RIGHT[0]]], [RIGHT[0], None], "root", {RIGHT[0]: True}, BOOK]
        for value in all_odd_values() + others:
            self.assertIs(self.chain(value), False)


class ErrorsTest(unittest.TestCase):
    def test_roots_and_reach(self):
        for call in (is_step, is_chain):
            for value in RIGHT[0], [RIGHT[0]], None:
                for roots in ([], ["a", "a"], "a", None, ["A"], list("abcde"), [None], True):
                    raised(self, InvalidRoots, call, BOOK, roots, value)
                    raised(self, InvalidRoots, call, BOOK, roots, value, reach=3)
                for reach in (3, 101, None, True, "40", [40]):
                    self.assertIs(raised(self, InvalidReach, call, BOOK, ["a"], value, reach=reach).value, reach)

    def test_the_default_reach(self):
        book = book_of("object o; code a 1 export; room 40; out r0; jump a; end")
        step = (("long", "o", "", "a", 2), "far", (A,), 0)
        self.assertIs(is_step(book, ["a"], step), True)
        self.assertIs(is_step(book, ["a"], step, reach=41), False)
        self.assertIs(is_chain(book, ["a"], [RIGHT[0], step]), True)
        self.assertIs(is_chain(book, ["a"], [RIGHT[0], step], reach=41), False)

    def test_walks_of_closures_are_chains(self):
        closure = Closure(BOOK, ["a"], reach=20)
        closure.finish()
        self.assertIs(is_chain(BOOK, ["a"], list(closure.walk()), reach=20), True)


if __name__ == "__main__":
    unittest.main()
