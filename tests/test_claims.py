"""Claims, their truth and their papers [9a4]."""

import random

from cutruns.claims import contrary, is_claim, is_paper_of, is_true, paper_of, words
from cutruns.callings import deepest
from cutruns.errors import InvalidClaim, TooMany
from cutruns.flows import Flow
from cutruns.judges import paper_apart
from cutruns.machine import is_schedule, is_still, replayed
from cutruns.meetings import is_meeting
from cutruns.programs import Program, with_threads
from cutruns.races import broken_claims, races
from cutruns.rows import one_goal
from cutruns.stills import is_ring, ring_schedule, still_schedule
from tests.helper import STRANGE, Case, bent
from tests.plain import any_row, fewest_events, fewest_until, met_row, program_of_seed
from tests.test_races import WIDE, WORDS, plain_claims, plain_races, stand
from tests.test_stills import FACING, ONE_WAY, plain_rings, with_calls

PAIRS = [("meet", "apart"), ("comes", "never"), ("race", "norace"), ("broken", "kept"), ("still", "moving"), ("ring", "ringless")]
# Place 0 -set 1-> 2 -claim 0-> 3 -write 0-> 1, BACK 3.
SOME = Program(1, 1, 2, [(("set", 1), ("claim", 0), ("write", 0))], [0, 0])
ROW = [(((0, "behind", 1),), ((1, 1),)), (((1, "in", (2, 1)),), ())]
THINGS = {"meet": [(0, 2), (1, 3)], "comes": ROW, "race": (0, 3, 1, 3, 0), "broken": (1, 2, 1)}


def claims_of(program, told):
    """A claim of each word that comes, all of the program, where there are such."""
    places = Flow(program).places
    threads = told.sample(range(len(program.threads())), told.randrange(1, len(program.threads()) + 1))
    yield "meet", program, [(thread, told.randrange(places)) for thread in threads]
    yield "comes", program, told.choice((any_row, met_row))(told, program)
    for word, found in (("race", plain_races(program)), ("broken", plain_claims(program))):
        if found:
            yield word, program, told.choice(found)
    yield "still", program
    yield "ring", program


class ClaimsTest(Case):
    def test_words(self):
        self.same(words(), PAIRS)
        words().clear()
        self.same(words(), PAIRS)

    def test_claims(self):
        for one, other in PAIRS:
            for word, against in ((one, other), (other, one)):
                claim = (word, SOME, *([THINGS[one]] if one in THINGS else []))
                self.is_true(is_claim(value=claim))
                self.same(contrary(claim=claim)[0], against)
                self.is_true(contrary(claim)[1] == SOME)
                self.same(contrary(claim)[2:], claim[2:])
                self.is_true(contrary(contrary(claim)) == claim)
        self.same(contrary(("never", SOME, tuple(ROW)))[2], tuple(ROW))

    def test_which_values_are_claims(self):
        for word, thing in THINGS.items():
            for more in ((), (thing, thing)):
                self.is_false(is_claim((word, SOME, *more)))
            self.is_false(is_claim([word, SOME, thing]))
            for value in (*STRANGE, *bent(thing)):
                holds = is_claim((word, SOME, value))
                if holds:
                    # What is bent of a list may be one still: as a tuple, or shorter by its first part.
                    self.assertIn(word, ("meet", "comes"))
                    self.is_true(value == tuple(thing) or is_claim((word, SOME, list(value))))
                else:
                    self.fails(InvalidClaim, {"value": (word, SOME, value)}, is_true, (word, SOME, value))
        for word in ("still", "moving", "ring", "ringless"):
            self.same([is_claim((word, SOME)), is_claim((word, SOME, None)), is_claim((word,))], [True, False, False])
        for value in (*STRANGE, ("meets", SOME, [(0, 0)]), ("meet", None, [(0, 0)]), ("still", "program"), (("meet",), SOME, [(0, 0)]),
                      (None, SOME), (0, SOME),
                      ("Still", SOME), ("broken", SOME, (0, 2, 0)), ("broken", SOME, (0, 0, 1)), ("broken", SOME, (2, 2, 1)),
                      ("race", SOME, (1, 3, 0, 3, 0)),
                      ("race", SOME, (0, 2, 1, 3, 0)), ("race", SOME, (0, 3, 1, 3, 1)), ("meet", SOME, [(0, 4)]), ("comes", SOME, []),
                      (["still"], SOME)):
            self.is_false(is_claim(value))
            for action, more in ((contrary, ()), (is_true, ()), (paper_of, ()), (is_paper_of, (None,))):
                self.fails(InvalidClaim, {"value": value}, action, value, *more)

    def test_truth_and_papers(self):
        for word, thing, holds in (
            ("meet", [(0, 2), (1, 3)], True), ("meet", [(0, 2)], True), ("comes", ROW, True), ("comes", [(((0, "behind", 1),), ((0, 0),))], False),
            ("race", (0, 3, 1, 3, 0), True), ("broken", (1, 2, 1), True), ("still", None, False), ("ring", None, False),
        ):
            claim = (word, SOME) if thing is None else (word, SOME, thing)
            self.same([is_true(claim=claim), is_true(contrary(claim))], [holds, not holds])
            self.same([paper_of(claim) is None, paper_of(contrary(claim)) is None], [not holds, holds])
            right = claim if holds else contrary(claim)
            self.is_true(is_paper_of(value=paper_of(right), claim=right))
            self.is_false(is_paper_of(contrary(right), paper_of(right)))
        self.is_false(is_true(("broken", with_threads(Program(1, 1, 2, [(("claim", 0),)], [0]), [0]), (0, 0, 1))))
        self.same(paper_of(("apart", SOME, [(0, 1), (1, 1)])), None)

    def test_kinds_of_papers(self):
        self.same(paper_of(("meet", SOME, [(0, 2)])), [(0, 0)])
        self.same(paper_of(("comes", SOME, [(((0, "at", 2),), ())])), [[(0, 0)]])
        self.same([paper_of(("race", SOME, THINGS["race"])).__class__, paper_of(("broken", SOME, (1, 2, 1)))], [list, [(1, 0)]])
        self.same([paper_of(("still", FACING)).__class__, paper_of(("ring", FACING)).__class__], [list, tuple])
        table = paper_of(("never", FACING, [(((0, "at", 4), (1, "at", 8)), ())]))
        self.same(table, paper_apart(FACING, [(((0, "at", 4), (1, "at", 8)), ())]))
        self.same(paper_of(("apart", FACING, [(0, 4), (1, 8)])), table)
        # A schedule is no list of schedules, nor the other way round; a ring's schedule alone is no paper.
        for claim, value in ((("meet", SOME, [(0, 2)]), [[(0, 0)]]), (("comes", SOME, [(((0, "at", 2),), ())]), [(0, 0)]),
                             (("ring", FACING), [(0, 0), (1, 5)]),
                             (("still", FACING), ([(0, 0), (1, 5)], [0, 1])), (("ring", FACING), [[(0, 0), (1, 5)], [0, 1]]),
                             (("still", FACING), [(0, 0)]),
                             (("ring", FACING), ([(0, 0), (1, 5)], [0])), (("ring", FACING), ([(0, 0), (1, 5)], [0, 1], 0)),
                             (("moving", ONE_WAY), [])):
            self.is_false(is_paper_of(claim, value))
        for claim, value in ((("meet", SOME, [(0, 2)]), ((1, 0), (0, 0))), (("comes", SOME, [(((0, "at", 2),), ())]), ([(1, 0), (0, 0)],)),
                             (("ring", FACING), (((0, 0), (1, 5)), (1, 0))), (("still", FACING), ((1, 5), (0, 0)))):
            self.is_true(is_paper_of(claim, value))

    def test_values_that_are_no_papers(self):
        for claim in (("meet", SOME, [(0, 2)]), ("comes", SOME, ROW), ("race", SOME, THINGS["race"]), ("broken", SOME, (1, 2, 1)),
                      ("still", FACING), ("ring", FACING),
                      ("apart", FACING, [(0, 4), (1, 8)]), ("moving", ONE_WAY), ("ringless", ONE_WAY), ("kept", SOME, (1, 2, 1)),
                      ("norace", SOME, THINGS["race"])):
            for value in (*STRANGE, [None], [(0, 99)], ([], []), [[], []], [(0, [], [])]):
                self.is_false(is_paper_of(claim, value))

    def test_of_a_claim_and_its_contrary_just_one(self):
        met = {}
        for seed in range(120):
            told = random.Random(seed)
            program = program_of_seed(told, told.choice((1, 2, 2, 3)), told.choice((4, 6)), 1)
            for claim in claims_of(program, told):
                against = contrary(claim)
                holds = is_true(claim)
                self.same([is_true(against), is_claim(against)], [not holds, True])
                papers = [paper_of(claim), paper_of(against)]
                self.same([paper is not None for paper in papers], [holds, not holds])
                for one in (claim, against):
                    self.same([paper is not None and is_paper_of(one, paper) for paper in papers],
                              [holds and one is claim, not holds and one is against])
                met[claim[0], holds] = True
        self.assertEqual(len(met), 12)

    def test_against_all_schedules(self):
        met = {}
        for seed in range(200):
            told = random.Random(seed)
            program = program_of_seed(told, told.choice((1, 2, 2)), told.choice((4, 6)), 1)
            deep = deepest(program)
            if deep is None:
                continue
            for claim in claims_of(program, told):
                word, thing = claim[0], claim[2:]
                if word == "comes":
                    fewest, whole = fewest_events(program, thing[0], deep, 3000)
                else:
                    holds = {
                        "meet": lambda state: stand(thing[0])(state),
                        "race": lambda state: stand([thing[0][:2], thing[0][2:4]])(state),
                        "broken": lambda state: (state[0][thing[0][0]][1][-1], state[0][thing[0][0]][0]) == thing[0][1:],
                        "still": lambda state: is_still(program, state),
                        "ring": lambda state: plain_rings(Flow(program), state) != [],
                    }[word]
                    fewest, whole = fewest_until(program, deep, 3000, holds)
                if fewest is not None or whole:
                    self.same(is_true(claim), fewest is not None)
                    met[word, fewest is not None] = met.get((word, fewest is not None), 0) + 1
                    if fewest is not None:
                        paper = paper_of(claim)
                        moves = {"ring": lambda: paper[0], "comes": lambda: sum(paper, [])}.get(word, lambda: paper)()
                        self.same(len(moves), fewest)
        self.assertEqual(len(met), 12)

    def test_papers_are_told_by_the_functions_of_their_stages(self):
        for seed in range(30):
            told = random.Random(seed)
            program = program_of_seed(told, 2, 6, 1)
            for race in races(program)[:2]:
                goal = [race[:2], race[2:4]]
                self.is_true(is_meeting(program, one_goal(program, goal), [paper_of(("race", program, race))]))
            for broken in broken_claims(program)[:2]:
                self.is_true(is_schedule(program, paper_of(("broken", program, broken))))
            still, ring = still_schedule(program), ring_schedule(program)
            if still is not None:
                self.is_true(is_still(program, replayed(program, paper_of(("still", program)))))
            if ring is not None:
                schedule, threads = paper_of(("ring", program))
                self.is_true(is_ring(program, replayed(program, schedule), threads))
            self.same([is_true(("moving", program)), is_true(("ringless", program))], [still is None, ring is None])

    def test_new_values(self):
        goal = [(0, 2)]
        contrary(("meet", SOME, goal))[2].clear()
        paper_of(("meet", SOME, goal)).clear()
        self.same([goal, paper_of(("meet", SOME, goal))], [[(0, 2)], [(0, 0)]])
        table = [(((0, "at", 4), (1, "at", 8)), ())]
        paper_of(("never", FACING, table))[0][1].clear()
        self.is_true(is_paper_of(("never", FACING, table), paper_of(("never", FACING, table))))


class LimitsTest(Case):
    def test_limits(self):
        withins, many = {"what": "withins", "limit": 20000}, {"what": "words", "limit": 1500}
        place = Flow(WORDS).place_ahead(2, [0])
        for action in (is_true, paper_of):
            for claim in (("meet", WIDE, [(0, 0)]), ("never", WIDE, [(((0, "at", 0),), ())]), ("still", WIDE), ("ringless", WIDE)):
                self.fails(TooMany, withins, action, claim)
            for claim in (("meet", WORDS, [(0, place)]), ("comes", WORDS, [(((1, "at", place),), ())]), ("race", WORDS, (0, place, 1, place, 0)),
                          ("broken", WORDS, (0, Flow(WORDS).place_ahead(2, [1]), 0)), ("moving", WORDS), ("ring", WORDS)):
                self.fails(TooMany, many, action, claim)
        self.same(is_true(("comes", WIDE, [((), ())])), True)

    def test_events(self):
        program = with_calls(3)
        far = [(0, Flow(program).place_ahead(0, [7, 0, 0])), (1, Flow(program).place_ahead(3, [0, 0, 0]))]
        told = {"what": "events", "limit": 400}
        self.same([is_true(("meet", program, far)), is_true(("apart", program, far))], [True, False])
        for claim in (("meet", program, far), ("still", program), ("ring", program)):
            self.fails(TooMany, told, paper_of, claim)
        for claim in (("apart", program, far), ("moving", program), ("ringless", program)):
            self.same(paper_of(claim), None)

    def test_standings(self):
        keep = ("either", (("hold", 0, (("call", 0),)),), (("either", (("hold", 1, (("call", 0),)),), (("call", 1),)),))
        sets = ("either", (("set", 0),), (("either", (("set", 1),), (("either", (("set", 2),), (("set", 3),)),)),))
        uses = ("either", (("hold", 2, ()),), (("hold", 3, ()),))
        many = Program(4, 0, 4, [(("loop", (uses, sets)), keep), (("skip",),) * 40], [0])
        for claim in (("moving", many), ("apart", many, [(0, 1)])):
            self.same([is_true(claim)], [False])
            self.fails(TooMany, {"what": "standings", "limit": 20000}, paper_of, claim)
