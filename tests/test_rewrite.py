"""Which steps `rewrite` accepts, what they make of a block, and what does not change by them."""

import copy
import random
import unittest

from building import NUM, NUMS, POINT, block, both, spoil
from drawn import drawn, outcome, small
from flatsheaves.errors import FlatError, PaperError
from flatsheaves.machine import run
from flatsheaves.passes import improve, rewrite
from steps import after, all_steps, is_accepted

SIGNS = ("+", "-", "*", "min", "max", "<", "=")

# Instructions that can be dropped if nobody uses their output, and such that cannot.
DROPPED = [("fill", 3, [0]), ("take", None, [1, 0]), ("pick", None, [1, 0]), ("repeat", None, [1]),
           ("count", None, [1]), ("where", True, [1]), ("where", False, [1]), ("weave", None, [1]),
           ("join", None, [1, 1]), ("sums", None, [1, 2]), ("zip", None, [1, 1]), ("flags", None, [1])]
DROPPED += [("calc", sign, [1, 1]) for sign in SIGNS]
KEPT = [("place", None, [1, 0]), ("range", None, [1]), ("same", None, [1, 1]), ("calc", "/", [1, 1]),
        ("calc", "mod", [1, 1])]


class RewriteCase(unittest.TestCase):
    def gives(self, code, results, paper, new_code, new_results, given=NUMS):
        """The steps change the block f, and not the two others around it, which look the same."""
        before = [block(code, results, given, name=name) for name in "gfh"]
        copied = copy.deepcopy(before)
        found = rewrite(before, paper)
        self.assertEqual(found, [before[0], block(new_code, new_results, given), before[2]])
        self.assertEqual(before, copied)

    def refused(self, blocks, paper, at):
        before = copy.deepcopy((blocks, paper))
        with self.assertRaises(PaperError) as caught:
            rewrite(blocks, paper)
        self.assertEqual(caught.exception.at, at)
        self.assertIsInstance(caught.exception, FlatError)
        self.assertEqual((blocks, paper), before)

    def refuses(self, code, results, paper, at=0, given=NUMS):
        self.refused([block(code, results, given)], paper, at)


class Drops(RewriteCase):
    def test_what_nobody_uses(self):
        for first in DROPPED:
            code = [("fill", 1, [0], [3]), first + ([4],), ("fill", 2, [3], [5])]
            self.gives(code, [5], [("drop", "f", 1)], [code[0], code[2]], [5])

    def test_what_can_trap(self):
        for first in KEPT:
            code = [("fill", 1, [0], [3]), first + ([4],), ("fill", 2, [3], [5])]
            self.refuses(code, [5], [("drop", "f", 1)])

    def test_calls(self):
        self.refuses([("call", "f", [0, 1, 2], [3])], [1], [("drop", "f", 0)])
        self.refuses([("call", "f", [0, 1, 2], [])], [1], [("drop", "f", 0)])

    def test_what_is_used(self):
        for first in DROPPED:
            one = first + ([4],)
            self.refuses([one], [4], [("drop", "f", 0)])
            self.refuses([one], [1, 4, 1], [("drop", "f", 0)])
            self.refuses([one, ("flags", None, [4], [5])], [1], [("drop", "f", 0)])
            self.refuses([one, ("fill", 2, [0], [5]), ("join", None, [1, 4], [6])], [1], [("drop", "f", 0)])
            self.refuses([one, ("call", "f", [0, 1, 4], [6])], [1], [("drop", "f", 0)])
            self.refuses([one, ("call", "f", [4, 1, 2], [6])], [1], [("drop", "f", 0)])

    def test_one_behind_the_other(self):
        """The second instruction uses the first one, so it has to go before it."""
        code = [("fill", 1, [0], [3]), ("flags", None, [3], [4]), ("join", None, [3, 4], [5])]
        paper = [("drop", "f", 2), ("drop", "f", 1), ("drop", "f", 0)]
        self.gives(code, [1], paper, [], [1])
        self.refuses(code, [1], [paper[0], paper[2]], 1)
        self.refuses(code, [1], paper[1:], 0)
        self.refuses(code, [5], paper, 0)

    def test_the_indexes_are_those_of_the_steps_before(self):
        code = [("fill", k, [0], [k + 3]) for k in range(4)]
        self.gives(code, [1], [("drop", "f", 0), ("drop", "f", 0), ("drop", "f", 1)], [code[2]], [1])
        self.refuses(code, [1], [("drop", "f", 3), ("drop", "f", 3)], 1)
        self.refuses(code, [1], [("drop", "f", 0)] * 5, 4)


class Shares(RewriteCase):
    def test_every_instruction(self):
        for first in DROPPED + KEPT:
            code = [first + ([3],), ("fill", 7, [0], [4]), first + ([5],), ("join", None, [5, 3], [6]),
                    ("call", "f", [5, 4, 5], [7])]
            new = [code[0], code[1], ("join", None, [3, 3], [6]), ("call", "f", [3, 4, 3], [7])]
            self.gives(code, [5, 7, 5, 3], [("share", "f", 2, 0)], new, [3, 7, 3, 3])

    def test_what_is_not_the_same(self):
        for first, other in [(("fill", 1, [0]), ("fill", 2, [0])),
                             (("fill", 1, [0]), ("fill", 1, [1])),
                             (("where", True, [1]), ("where", False, [1])),
                             (("calc", "+", [0, 1]), ("calc", "+", [1, 0])),
                             (("calc", "+", [0, 1]), ("calc", "-", [0, 1])),
                             (("repeat", None, [1]), ("count", None, [1])),
                             (("join", None, [1, 2]), ("join", None, [1, 1])),
                             (("zip", None, [1, 1]), ("join", None, [1, 1]))]:
            code = [first + ([3],), other + ([4],)]
            self.refuses(code, [4], [("share", "f", 1, 0)])
            self.refuses(code[::-1], [4], [("share", "f", 1, 0)])

    def test_calls(self):
        code = [("call", "f", [0, 1, 2], [3]), ("call", "f", [0, 1, 2], [4])]
        self.refuses(code, [4], [("share", "f", 1, 0)])

    def test_only_with_an_earlier_one(self):
        code = [("fill", 1, [0], [3]), ("fill", 1, [0], [4])]
        self.refuses(code, [4], [("share", "f", 0, 1)])
        self.refuses(code, [4], [("share", "f", 0, 0)])
        self.refuses(code, [4], [("share", "f", 1, 1)])
        self.gives(code, [4], [("share", "f", 1, 0)], [code[0]], [3])
        self.gives(code, [3], [("share", "f", 1, 0)], [code[0]], [3])

    def test_one_makes_the_next_possible(self):
        code = [("fill", 1, [0], [3]), ("fill", 1, [0], [4]), ("flags", None, [3], [5]), ("flags", None, [4], [6]),
                ("join", None, [5, 6], [7])]
        paper = [("share", "f", 1, 0), ("share", "f", 2, 1)]
        self.gives(code, [7, 6, 4], paper, [code[0], code[2], ("join", None, [5, 5], [7])], [7, 5, 3])
        self.refuses(code, [7], [("share", "f", 3, 2)])
        self.refuses(code, [7], paper[1:])

    def test_a_share_makes_a_drop_possible_and_the_other_way_round(self):
        code = [("fill", 1, [0], [3]), ("flags", None, [3], [4]), ("fill", 1, [0], [5])]
        self.gives(code, [5], [("drop", "f", 1), ("share", "f", 1, 0)], [code[0]], [3])
        self.gives(code, [1], [("share", "f", 2, 0), ("drop", "f", 1), ("drop", "f", 0)], [], [1])
        # What was taken over is used by others from now on.
        self.refuses(code, [5], [("drop", "f", 1), ("share", "f", 1, 0), ("drop", "f", 0)], 2)
        self.refuses([code[0], code[2], ("flags", None, [5], [6])], [6], [("share", "f", 1, 0), ("drop", "f", 0)], 1)

    def test_three_equal_ones(self):
        code = [("fill", 1, [0], [3]), ("fill", 1, [0], [4]), ("fill", 1, [0], [5]), ("join", None, [4, 5], [6])]
        for paper in ([("share", "f", 2, 1), ("share", "f", 1, 0)], [("share", "f", 1, 0), ("share", "f", 1, 0)],
                      [("share", "f", 2, 0), ("share", "f", 1, 0)]):
            self.gives(code, [5, 4, 3, 6], paper, [code[0], ("join", None, [3, 3], [6])], [3, 3, 3, 6])
        self.gives(code, [5], [("share", "f", 2, 1)], [*code[:2], ("join", None, [4, 4], [6])], [4])


class Papers(RewriteCase):
    CODE = [("fill", 1, [0], [3]), ("fill", 1, [0], [4])]

    def test_no_steps(self):
        self.gives(self.CODE, [4], [], self.CODE, [4])
        self.assertEqual(rewrite([], []), [])
        self.gives([], [1], [], [], [1])

    def test_indexes(self):
        for step in (("drop", "f", -1), ("drop", "f", 2), ("drop", "f", 100), ("share", "f", -1, 0),
                     ("share", "f", 2, 0), ("share", "f", 1, -1), ("share", "f", 1, -2), ("share", "f", 1, 2),
                     ("share", "f", 2, 1), ("share", "f", -1, -2), ("drop", "f", -2)):
            self.refuses(self.CODE, [1], [step])
            self.refuses(self.CODE, [1], [("drop", "f", 0), step], 1)
        self.refuses([], [1], [("drop", "f", 0)])
        self.refuses([], [1], [("share", "f", 0, 0)])

    def test_names(self):
        for name in ("g", "", "F", "fill"):
            self.refuses(self.CODE, [1], [("drop", name, 0)])
            self.refuses(self.CODE, [1], [("share", name, 1, 0)])
            self.refuses(self.CODE, [1], [("drop", "f", 0), ("drop", "f", 0), ("drop", name, 0)], 2)
        self.refused([], [("drop", "f", 0)], 0)

    def test_what_is_no_step(self):
        self.refuses(self.CODE, [1], [("drop", "f", 0), ("turn", "f", 0, 0)], 1)

    def test_the_first_step_that_is_not_accepted(self):
        self.refuses(self.CODE, [1], [("drop", "f", 5), ("drop", "g", 0)], 0)
        self.refuses(self.CODE, [1], [("drop", "f", 0), ("drop", "f", 0), ("drop", "f", 0), ("drop", "f", 0)], 2)

    def test_several_blocks(self):
        blocks = [block(self.CODE, [1], name=name) for name in "fgh"]
        paper = [("drop", "h", 1), ("share", "f", 1, 0), ("drop", "h", 0), ("drop", "f", 0)]
        self.assertEqual(rewrite(blocks, paper), [block([], [1]), blocks[1], block([], [1], name="h")])
        self.refused(blocks, paper + [("drop", "h", 0)], 4)
        # The blocks of a call are looked at for themselves.
        caller = block([("call", "g", [0, 1], [2])], [2])
        self.assertEqual(rewrite([caller, blocks[1]], [("drop", "g", 0)])[0], caller)

    def test_no_list_is_shared(self):
        kind = both(NUM, POINT)
        code = [("fill", 1, [0], [4]), ("call", "f", [0, 1, 2, 3], [5, 6, 7])]
        before = [block(code, [1, 1], kind), block([], [1], name="g")]
        for paper in ([], [("drop", "f", 0)]):
            blocks = copy.deepcopy(before)
            copied = copy.deepcopy((blocks, paper))
            spoil(rewrite(blocks, paper))
            self.assertEqual((blocks, paper), copied)


class DrawnCase(RewriteCase):
    def outcome(self, blocks, paper):
        try:
            return rewrite(blocks, paper)
        except PaperError as error:
            return error.at

    def same_meaning(self, one, blocks):
        results, steps, touches = run(one.blocks, one.name, one.good)
        new_results, new_steps, new_touches = run(blocks, one.name, one.good)
        self.assertEqual(new_results, results)
        self.assertLessEqual(new_steps, steps)
        self.assertLessEqual(new_touches, touches)
        for value, found in zip(one.values, one.outcomes):
            self.assertEqual(outcome(run, blocks, one.name, [value]) == "trap", found == "trap")

    def no_more(self, blocks):
        self.assertEqual([step for step in all_steps(blocks) if is_accepted(blocks, step)], [])
        for step in all_steps(blocks):
            self.assertEqual(self.outcome(blocks, [step]), 0)


class Drawings(DrawnCase):
    """Steps drawn for drawn programs, against the words of point 18."""

    def test_every_step(self):
        for one in small(45)[::3]:
            for step in all_steps(one.blocks):
                expected = after(one.blocks, step) if is_accepted(one.blocks, step) else 0
                self.assertEqual(self.outcome(one.blocks, [step]), expected)

    def test_ways_of_steps(self):
        """Accepted steps until there are none, in any order, and then one that is not accepted."""
        chooser = random.Random(5)
        ways = 0
        for one in small(45)[1::2]:
            blocks, paper = one.blocks, []
            while True:
                steps = [step for step in all_steps(blocks) if is_accepted(blocks, step)]
                if not steps:
                    break
                paper.append(chooser.choice(steps))
                blocks = after(blocks, paper[-1])
            self.assertEqual(rewrite(one.blocks, paper), blocks)
            ways += len(paper)
            self.same_meaning(one, blocks)
            for step in all_steps(blocks)[:20]:
                self.assertEqual(self.outcome(one.blocks, paper + [step]), len(paper))
        self.assertGreater(ways, 500)


class Improvements(DrawnCase):
    def test_by_hand(self):
        code = [("fill", 1, [0], [3]), ("fill", 1, [0], [4]), ("flags", None, [3], [5]), ("flags", None, [4], [6]),
                ("join", None, [5, 6], [7]), ("range", None, [4], [8]), ("range", None, [3], [9])]
        blocks = [block(code, [6], NUMS)]
        found = rewrite(blocks, improve(blocks))
        self.assertEqual(len(found[0][4]), 3)
        self.assertEqual([instruction[0] for instruction in found[0][4]], ["fill", "flags", "range"])

    def test_nothing_to_do(self):
        self.assertEqual(improve([]), [])
        self.assertEqual(improve([block([], [1])]), [])
        code = [("call", "f", [0, 1], [2]), ("call", "f", [0, 1], [3]), ("range", None, [1], [4]),
                ("calc", "/", [1, 1], [5]), ("calc", "mod", [1, 1], [6]), ("same", None, [1, 1], [7]),
                ("place", None, [1, 0], [8])]
        self.assertEqual(improve([block(code, [1])]), [])

    def test_shares_of_what_can_trap(self):
        for first in KEPT:
            code = [first + ([k + 3],) for k in range(4)]
            blocks = [block(code, [1])]
            self.assertEqual(rewrite(blocks, improve(blocks)), [block(code[:1], [1])])

    def test_a_chain_that_nobody_uses(self):
        code = [("flags", None, [k + 1], [k + 2]) for k in range(50)]
        self.assertEqual(rewrite([block(code, [1])], improve([block(code, [1])])), [block([], [1])])
        kept = block(code[:31], [31])
        self.assertEqual(rewrite([kept], improve([kept])), [block(code[:30], [31])])

    def test_a_chain_of_equal_ones(self):
        """Each share makes the next one possible."""
        code = []
        for k in range(30):
            code += [("flags", None, [2 * k + 1 if k else 1], [2 * k + 2]),
                     ("flags", None, [2 * k if k else 1], [2 * k + 3])]
        blocks = [block(code, [60, 61])]
        found = rewrite(blocks, improve(blocks))
        self.no_more(found)
        self.assertEqual(len(found[0][4]), 30)
        self.assertEqual(run(found, "f", [0, 5])[0], run(blocks, "f", [0, 5])[0])

    def test_many_equal_ones(self):
        code = [(("fill", k % 3, [0], [k + 2]) if k < 60 else ("calc", "+", [k % 60 + 2, k % 7 + 2], [k + 2]))
                for k in range(120)]
        blocks = [block(code, [121, 64]), block(code, [1], name="g")]
        found = rewrite(blocks, improve(blocks))
        self.no_more(found)
        self.assertEqual(found[1], block([], [1], name="g"))
        self.assertEqual(run(found, "f", [5])[0], run(blocks, "f", [5])[0])

    def test_drawn_programs(self):
        seen = 0
        for one in drawn():
            paper = improve(one.blocks)
            self.assertIs(type(paper), list)
            blocks = rewrite(one.blocks, paper)
            self.assertEqual(improve(blocks), [])
            self.same_meaning(one, blocks)
            seen += len(paper) > 3
        self.assertGreater(seen, 300)

    def test_no_step_is_left(self):
        for one in small(45)[::2]:
            blocks = one.blocks
            for step in improve(one.blocks):
                self.assertTrue(is_accepted(blocks, step))
                blocks = after(blocks, step)
            self.no_more(blocks)

    def test_arguments_stay(self):
        for one in drawn()[::10]:
            before = copy.deepcopy(one.blocks)
            paper = improve(one.blocks)
            self.assertEqual(one.blocks, before)
            spoil(paper)
            self.assertEqual(one.blocks, before)


if __name__ == "__main__":
    unittest.main()
