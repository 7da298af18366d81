"""Words that agree [4b1] to [4b6]."""

import itertools
import random

from cutruns.errors import InvalidLeg, InvalidWords
from cutruns.orders import agree, are_words, arrows_of, bar_of, is_bar, is_order, nodes_of, order_of
from cutruns.programs import Program
from cutruns.words import held_at, legs_of, word_of
from tests.helper import STRANGE, Case, bent
from tests.parts import REST, cut, give, take
from tests.plain import any_run, can_be_woven, cuts_of, program_of_seed


def word(*parts, used=()):
    """A word of parts told by edge, lock and used ones, the last cut left out."""
    return (("start", None, used), *parts, REST)


# One used the next one's lock behind taking its own: a ring of all, though each two of three of them agree.
RING = [word(take(0, 1)), word(take(1, 2)), word(take(2, 0))]
# The same among gives: in the second leg each uses the next one's lock, and gives its own one behind that.
GIVES = [word(take(0), cut(1), give(0)), word(take(1), cut(2), give(1)), word(take(2), cut(0), give(2))]
TWO = [word(take(0, 1)), word(take(1, 0))]
LONE = word(cut(0), take(1, 2, 3), cut(0), give(1, 1), take(2, 0), used=(1, 3))


def nested(told, depth, left):
    """A body of holds within holds."""
    found = []
    for _ in range(told.choice((1, 2, 2))):
        if depth < 5 and left[0] > 0:
            left[0] -= 1
            found.append(("hold", told.randrange(3), nested(told, depth + 1, left)))
    return tuple(found)


def words_and_runs(seeds, legs):
    """Words of runs of programs, the runs, and the programs."""
    for seed in seeds:
        told = random.Random(seed)
        threads = told.choice((2, 2, 3))
        program = program_of_seed(told, threads, told.choice((5, 8)))
        if seed % 3 > 0:
            program = Program(3, 0, 1, [nested(told, 1, [6]) for _ in range(threads)], list(range(threads)))
        for _ in range(4):
            many = told.choice(legs)
            runs = [(thread, any_run(told, program, thread, many, 9)) for thread in range(threads)]
            yield [word_of(program, thread, run) for thread, run in runs], runs, program


def plainly_shared(words, leg):
    """The shared locks of the leg, as [4b4] tells it."""
    found = []
    for first, second in itertools.permutations(range(len(words)), 2):
        one, other = legs_of(words[first])[leg], legs_of(words[second])[leg]
        ends = [held_at(words[at], leg) for at in (first, second)]
        begins = [held_at(words[at], leg - 1) if leg > 0 else () for at in (first, second)]
        for lock in range(4):
            through = lock in begins[0] and ("give", lock) not in [part[:2] for part in one]
            met = any([lock in part[2] or part[:2] == ("take", lock) for part in other])
            both = all([lock in held for held in begins]) or all([lock in held for held in ends])
            if both or through and met:
                found.append((lock, first, second))
    return found


def plain_arrows(words, leg):
    """The arrows of the leg, as [4b3] tells it."""
    arrows, uses, edges = [], [], []
    for position, told in enumerate(words):
        begin = sum([len(parts) for parts in legs_of(told)[:leg]])
        line = []
        for at, (edge, lock, used) in enumerate(legs_of(told)[leg]):
            if edge in ("take", "give"):
                line.append((position, begin + at, 0))
                edges.append((line[-1], edge, lock))
            if used:
                line.append((position, begin + at, 1))
                uses.extend([(line[-1], one) for one in used])
        arrows.extend(list(zip(line, line[1:])))
    for node, edge, lock in edges:
        others = [other for other, used in uses if used == lock and other[0] != node[0]]
        if edge == "take":
            arrows.extend([(other, node) for other in others])
        else:
            arrows.extend([(node, other) for other in others])
            takes = [other for other, kind, one in edges if (kind, one) == ("take", lock) and other[0] != node[0]]
            arrows.extend([(node, other) for other in takes])
    return sorted(arrows)


class WordsTest(Case):
    def test_words(self):
        for words in ([LONE], [LONE] * 4, RING, GIVES, TWO, [word(REST), word(take(3), REST, used=(0,))]):
            self.is_true(are_words(words))
            self.is_true(are_words(tuple(words)))

    def test_no_words(self):
        strange = (*STRANGE, [], (), [LONE] * 5, [word(), word(REST)], LONE, [list(LONE)], [LONE, None], [word()[:1]], {0: LONE})
        for value in (*strange, *bent([word(take(0), cut(1)), word(REST)])):
            self.is_false(are_words(value))
            for action in (agree, order_of, bar_of):
                self.fails(InvalidWords, {"value": value}, action, value)
            for action in (nodes_of, arrows_of, is_order, is_bar):
                self.fails(InvalidWords, {"value": value}, action, value, None)

    def test_legs(self):
        for value in (*STRANGE, 3, (0,)):
            for action in (nodes_of, arrows_of):
                self.fails(InvalidLeg, {"value": value}, action, [LONE], value)
        self.fails(InvalidLeg, {"value": 1}, nodes_of, RING, 1)

    def test_by_name(self):
        self.is_true(are_words(value=TWO))
        self.is_false(agree(words=TWO))
        self.same(len(nodes_of(leg=0, words=TWO)), 4)
        self.same(len(arrows_of(leg=0, words=TWO)), 4)
        self.same(order_of(words=TWO), None)
        self.is_true(is_bar(value=bar_of(words=TWO), words=TWO))
        self.is_true(is_order(value=[[]], words=[word()]))


class NodesTest(Case):
    def test_nodes(self):
        told = [[(0, 0, 1)], [(0, 1, 1), (0, 2, 0), (0, 2, 1)], [(0, 3, 1), (0, 4, 0), (0, 4, 1), (0, 5, 0), (0, 5, 1)]]
        self.same([nodes_of([LONE], leg) for leg in range(3)], told)
        self.same(nodes_of([LONE, LONE], 0), [(0, 0, 1), (1, 0, 1)])
        self.same(nodes_of([word()], 0), [])

    def test_arrows_in_a_word(self):
        told = [[], [((0, 1, 1), (0, 2, 0)), ((0, 2, 0), (0, 2, 1))]]
        self.same([arrows_of([LONE], leg) for leg in range(2)], told)
        self.same(len(arrows_of((LONE,), 2)), 4)

    def test_arrows_between_words(self):
        user, taker, giver = word(cut(0)), word(REST, take(0)), word(take(0), cut(), give(0))
        self.same(arrows_of([user, taker], 1), [((0, 1, 1), (1, 2, 0))])
        self.same(arrows_of([user, giver], 1), [((1, 3, 0), (0, 1, 1))])
        self.same(arrows_of([giver, taker], 1), [((0, 3, 0), (1, 2, 0))])
        self.same(arrows_of([user, user], 1), [])
        self.same(arrows_of([word(cut(1)), giver, taker], 1), [((1, 3, 0), (2, 2, 0))])
        # Uses of several locks at one stretch are one node.
        self.same(arrows_of([word(used=(0, 1)), word(take(0), take(1))], 0),
                  [((0, 0, 1), (1, 1, 0)), ((0, 0, 1), (1, 2, 0)), ((1, 1, 0), (1, 2, 0))])

    def test_against_the_definition(self):
        for words, _, _ in words_and_runs(range(1000, 1150), (1, 2, 3)):
            for leg in range(len(legs_of(words[0]))):
                self.same(arrows_of(words, leg), plain_arrows(words, leg))
                self.same(nodes_of(words, leg), sorted(nodes_of(words, leg)))

    def test_new_lists(self):
        nodes_of(TWO, 0).clear()
        arrows_of(TWO, 0).clear()
        self.same([len(nodes_of(TWO, 0)), len(arrows_of(TWO, 0))], [4, 4])


class SharedTest(Case):
    def shared(self, words, *told):
        found = [("shared", *one) for one in itertools.product(range(3), range(4), range(3), range(3)) if is_bar(words, ("shared", *one))]
        self.same(found, [("shared", *one) for one in told])
        if told:
            self.is_false(agree(words))
            self.assertIn(bar_of(words), found)

    def test_at_the_end(self):
        self.shared([word(take(0)), word(take(0))], (0, 0, 0, 1), (0, 0, 1, 0))
        self.shared([word(take(2)), word(take(2, 1))], (0, 2, 0, 1), (0, 2, 1, 0))
        # Whoever has given it by then doesn't hold it.
        self.shared([word(take(0), cut(), give(0)), word(REST, take(0))])

    def test_at_the_begin(self):
        self.shared([word(take(0), cut(), give(0)), word(take(0), cut(), give(0))],
                    (0, 0, 0, 1), (0, 0, 1, 0), (1, 0, 0, 1), (1, 0, 1, 0))

    def test_through_a_leg(self):
        keeper = word(take(0), REST)
        self.shared([keeper, word(cut(0))], (1, 0, 0, 1))
        self.shared([word(cut(0)), keeper], (1, 0, 1, 0))
        self.shared([keeper, word(REST, used=(0,))])
        self.shared([keeper, word(REST, take(0))], (1, 0, 0, 1), (1, 0, 1, 0))
        self.shared([word(take(0), REST, REST), word(REST, take(0), cut(), give(0))],
                    (1, 0, 0, 1), (1, 0, 1, 0), (2, 0, 0, 1), (2, 0, 1, 0))
        # One that gives it, and takes it again, holds it not through the leg.
        again = word(take(0), cut(), give(0), take(0))
        self.shared([again, word(cut(0))])
        self.is_true(agree([again, word(cut(0))]))

    def test_against_the_definition(self):
        for words, _, _ in words_and_runs(range(2000, 2080), (1, 2, 3)):
            told = [(leg, *one) for leg in range(len(legs_of(words[0]))) for one in sorted(plainly_shared(words, leg))]
            self.shared(words, *told)


class AgreeTest(Case):
    def test_one_word(self):
        for told in (LONE, *RING, *GIVES, word()):
            self.is_true(agree([told]))

    def test_rings(self):
        for words in (TWO, RING, GIVES, [*RING, word()], [word(take(0, 3)), word(take(3, 0))]):
            self.is_false(agree(words))
            self.same(bar_of(words)[0], "ring")
            self.is_true(is_bar(words, bar_of(words)))
        self.same(sorted(bar_of(TWO)[2]), nodes_of(TWO, 0))
        self.same(bar_of(GIVES)[1], 1)

    def test_three_that_do_not_agree_though_each_two_do(self):
        for words in (RING, GIVES):
            for pair in itertools.combinations(words, 2):
                self.is_true(agree(list(pair)))
            self.is_false(agree(words))

    def test_cut_runs_can_be_woven_exactly_if_they_agree(self):
        met = []
        for words, runs, program in words_and_runs(range(400), (1, 1, 2, 3)):
            self.same(agree(words), can_be_woven(program, runs))
            order, bar = order_of(words), bar_of(words)
            self.same([order is None, bar is None], [not agree(words), agree(words)])
            if order is None:
                self.is_true(is_bar(words, bar))
                met.append(bar[0])
            else:
                self.is_true(is_order(words, order))
                met.append("order")
        self.assertLessEqual({"order", "shared"}, set(met))
        self.assertGreater(met.count("shared"), 100)

    def holders(self, *pairs):
        """Of threads that take one lock, use another within it, and go on a while: the program, and all their cut runs."""
        bodies = [(("hold", one, (("hold", other, ()), ("skip",))),) for one, other in pairs]
        program = Program(3, 0, 1, bodies, list(range(len(pairs))))
        runs = [[6 * thread + at for at in range(6)] for thread in range(len(pairs))]
        return program, runs

    def compare(self, program, lots):
        """Compare agreeing with weaving for each lot of cut runs: how many lots have a ring."""
        rings = 0
        for lot in lots:
            words = [word_of(program, thread, run) for thread, run in enumerate(lot)]
            self.same(agree(words), can_be_woven(program, list(enumerate(lot))))
            bar = bar_of(words)
            if bar is not None:
                self.is_true(is_bar(words, bar))
                rings += bar[0] == "ring"
        return rings

    def test_rings_of_two_threads(self):
        program, runs = self.holders((0, 1), (1, 0))
        cut_runs = [[run for many in range(7) for run in cuts_of(told[:many], 2)] for told in runs]
        self.assertGreater(self.compare(program, itertools.product(*cut_runs)), 10)

    def test_rings_of_three_threads(self):
        program, runs = self.holders((0, 1), (1, 2), (2, 0))
        takes = [[[told[:many]] for many in range(7)] for told in runs]
        self.assertGreater(self.compare(program, itertools.product(*takes)), 0)
        # And with all of them holding their locks at the end of the first leg.
        gives = [[[told[:1], told[1:many]] for many in range(1, 7)] for told in runs]
        self.assertGreater(self.compare(program, itertools.product(*gives)), 0)


class OrderTest(Case):
    WORDS = [word(take(0, 1)), word(take(1), used=(3,))]
    ORDERS = ([[(0, 1, 0), (0, 1, 1), (1, 0, 1), (1, 1, 0)]], [[(1, 0, 1), (0, 1, 0), (0, 1, 1), (1, 1, 0)]])

    def test_orders(self):
        for told in self.ORDERS:
            self.is_true(is_order(self.WORDS, told))
            self.is_true(is_order(tuple(self.WORDS), tuple([tuple(leg) for leg in told])))
        self.same(len(order_of([word(take(0), cut(1, 2), give(0)), word(REST)])), 2)
        self.is_true(is_order([word(), word()], [[]]))

    def test_each_order_and_no_other(self):
        right = [list(told) for told in itertools.permutations(nodes_of(self.WORDS, 0)) if is_order(self.WORDS, [list(told)])]
        self.same(sorted(right), sorted([[*told[:at], (1, 0, 1), *told[at:], (1, 1, 0)]
                                         for told in [[(0, 1, 0), (0, 1, 1)]] for at in range(3)]))

    def test_no_orders(self):
        told = self.ORDERS[0]
        for value in (
            *STRANGE, *bent(told), [], told * 2, [told[0][:-1]], [told[0] + told[0][-1:]], [told[0][::-1]], told[0],
            [[*told[0][:3], (1, 1, 1)]], [[*told[0], (1, 1, 1)]], [[]], [[list(node) for node in told[0]]],
        ):
            self.is_false(is_order(self.WORDS, value))

    def test_no_order_where_a_lock_is_shared(self):
        words = [word(take(0), REST), word(cut(0))]
        self.is_false(is_order(words, [[(0, 1, 0)], [(1, 1, 1)]]))
        self.same(order_of(words), None)
        self.is_true(is_order(words[:1], [[(0, 1, 0)], []]))


class BarTest(Case):
    def test_rings(self):
        ring = [(0, 1, 0), (0, 1, 1), (1, 1, 0), (1, 1, 1)]
        for turn in range(4):
            told = ring[turn:] + ring[:turn]
            self.is_true(is_bar(TWO, ("ring", 0, told)))
            self.is_true(is_bar(TWO, ("ring", 0, tuple(told))))
        for value in (ring[::-1], ring[:3], ring[:2], ring * 2, [*ring, ring[0]], [], ring[:1], [(0, 1, 0), (1, 1, 0)]):
            self.is_false(is_bar(TWO, ("ring", 0, value)))
        self.is_false(is_bar(TWO, ("ring", 0, ring, 0)))
        # Nodes ahead of a ring, and behind it, are none of it.
        words = [word(take(0, 1), take(3), used=(2,)), word(take(1, 0), used=(3,))]
        self.same([sorted(bar_of(words)[2]), is_bar(words, bar_of(words))], [[(0, 1, 0), (0, 1, 1), (1, 1, 0), (1, 1, 1)], True])
        # Two nodes with no arrow back.
        self.is_false(is_bar([word(take(0)), word(used=(0,))], ("ring", 0, [(1, 0, 1), (0, 1, 0)])))
        self.is_false(is_bar(RING[:2], ("ring", 0, [(0, 1, 0), (0, 1, 1)])))

    def test_values_of_other_kinds(self):
        for value in (*STRANGE, *bent(("ring", 0, [(0, 1, 0), (0, 1, 1), (1, 1, 0), (1, 1, 1)]))):
            self.is_false(is_bar(TWO, value))
        words = [word(take(1)), word(take(1))]
        self.is_true(is_bar(words, ("shared", 0, 1, 0, 1)))
        for value in (*STRANGE, *bent(("shared", 0, 1, 0, 1)), *bent(("shared", 0, 1, 1, 0))):
            self.is_false(is_bar(words, value))
        for value in (("shared", 0, 1, 0, 0), ("shared", 1, 1, 0, 1), ("shared", 0, 0, 0, 1), ("shared", 0, 1, 0, 2), ("shared", 0, 4, 0, 1),
                      ("shared", 0, 1, 0), ("shared", 0, 1, 0, 1, 0), ("ring", 0), ("ring", 1, []), ("order", 0, 1, 0, 1), ("shared",)):
            self.is_false(is_bar(words, value))
        self.same([agree([word()]), bar_of([word()])], [True, None])
