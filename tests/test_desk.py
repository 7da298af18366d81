"""Desks and trials [9b1] to [9b4]."""

import random

from cutruns.claims import is_paper_of, paper_of
from cutruns.commands import is_command
from cutruns.desk import Desk, Trial, tried
from cutruns.errors import (
    CommandFailed,
    HoldError,
    InvalidClaim,
    InvalidCommand,
    InvalidDeeds,
    InvalidGoal,
    InvalidLock,
    InvalidMost,
    InvalidPaper,
    InvalidPath,
    InvalidProcedure,
    InvalidRow,
    InvalidThread,
    InvalidThreads,
    LabelTaken,
    LimitError,
    MissingError,
    NameTaken,
    NoRepair,
    NoSuchPath,
    NotHold,
    NothingToRedo,
    NothingToUndo,
    NotNested,
    StateError,
    TooDeep,
    TooMany,
    UnknownLabel,
    UnknownName,
)
from cutruns.meetings import can_meet
from cutruns.programs import Program
from cutruns.races import races
from cutruns.readers import program_of, program_text
from tests.helper import STRANGE, Case
from tests.plain import program_of_seed
from tests.plain_desk import PlainDesk
from tests.test_races import WIDE, WORDS, long_way

BARE = "program p locks 1; cells 1; modes 1; threads 0 0; procedure; write 0"
CROSS = "program c locks 2; cells 0; modes 1; threads 0 1; procedure; hold 0 {; hold 1 {; }; }; procedure; hold 1 {; hold 0 {; }; }"
MODES = "program m locks 0; cells 0; modes 2; threads 0; procedure; set 1; claim 0; loop {; skip; }"
ERRORS = (HoldError, MissingError, StateError, LimitError)


def lines_of(program):
    return "; ".join(program_text(program).splitlines())


def all_of(desk):
    """All that can be told of a desk."""
    kept = [(name, desk.do("show " + name)) for name in desk.names]
    claims = [(label, desk.do("claimed " + label), desk.do("state " + label), desk.claim_of(label) is None,
               desk.fits(label)) for label in desk.labels]
    undone = desk.copy()
    behind = []
    while True:
        try:
            behind.append(undone.do("redo"))
        except NothingToRedo:
            return kept, claims, desk.lines(), len(desk), behind


class DeskCase(Case):
    def made(self, *lines):
        desk = Desk()
        desk.do_all(*lines)
        return desk

    def answers(self, desk, *told):
        """The commands, each with its answer."""
        for command, answer in told:
            self.same([command, desk.do(command)], [command, answer])

    def refused(self, desk, error, told, command):
        """The command fails so, and nothing is changed."""
        ahead = all_of(desk)
        self.fails(error, told, desk.do, command)
        self.fails(error, told, desk, command)
        self.same(all_of(desk), ahead)


class KeepingTest(DeskCase):
    def test_an_empty_desk(self):
        desk = Desk()
        self.same([desk.names, desk.labels, len(desk), desk.lines(), "p" in desk], [[], [], 0, [], False])
        self.answers(desk, ("names", "-"), ("states", "-"))
        self.refused(desk, NothingToUndo, {}, "undo")
        self.refused(desk, NothingToRedo, {}, "redo")
        self.same([desk.do_all(), desk.attempt()], [[], []])

    def test_programs_goals_and_rows(self):
        desk = self.made(BARE, "goal g 0@0,1@1", "row r 0@0,1>0!1>1/-/-!0>0,1>1")
        self.answers(desk, ("names", "g p r"), ("show g", "0@0,1@1"), ("show r", "0@0,1>0!1>1/-/-!0>0,1>1"), ("show p", BARE[10:]))
        self.is_true(desk["p"] == Program(1, 1, 1, [(("write", 0),)], [0, 0]))
        self.same([desk["g"], desk["r"]], [[(0, 0), (1, 1)], [(((0, "at", 0), (1, "behind", 0)), ((1, 1),)), ((), ()), ((), ((0, 0), (1, 1)))]])
        desk["g"].clear()
        desk["r"].append(0)
        desk.names.clear()
        desk.lines().clear()
        self.same([desk.names, len(desk["g"]), len(desk["r"]), "g" in desk, "x" in desk, len(desk)], [["g", "p", "r"], 2, 3, True, False, 3])

    def test_items_of_all_kinds_are_shown_as_told(self):
        desk = Desk()
        for at, row in enumerate(("-", "0@1", "0@1.2", "3>4", "0@1,2@3.1,1>5!0>0", "-!1>2,1>2,0>0/0>3/-", "9@99,9@99")):
            self.answers(desk, (f"row r{at} {row}", "-"), (f"show r{at}", row))
        for at, goal in enumerate(("0@0", "3@2,1@1,3@2")):
            self.answers(desk, (f"drop r{at}", "-"), (f"goal r{at} {goal}", "-"), (f"show r{at}", goal))

    def test_names_that_are_not_kept(self):
        desk = self.made(BARE)
        for value in (*STRANGE, "q", "g", "P", "pp"):
            self.fails(UnknownName, {"value": value}, desk.__getitem__, value)
            self.is_false(value in desk)
            self.fails(UnknownLabel, {"value": value}, desk.claim_of, value)
            self.fails(UnknownLabel, {"value": value}, desk.fits, value)
            self.fails(UnknownLabel, {"value": value}, desk.attach, value, None)
        with self.assertRaises(TypeError):
            list(desk)

    def test_copies_and_drops(self):
        desk = self.made(BARE, "goal g 0@0", "copy q p", "copy h g")
        self.answers(desk, ("same p q", "yes"), ("same g h", "yes"), ("wrap q 0 0 0", "-"), ("same p q", "no"), ("drop h", "-"),
                     ("goal h 0@1", "-"), ("same g h", "no"),
                     ("names", "g h p q"), ("drop p", "-"), ("show q", BARE[10:].replace("write 0", "hold 0 {; write 0; }")), ("drop g", "-"))
        self.is_true(desk["q"] == program_of("locks 1\ncells 1\nmodes 1\nthreads 0 0\nprocedure\nhold 0 {\nwrite 0\n}\n"))

    def test_programs_are_changed(self):
        desk = self.made(BARE, CROSS)
        self.answers(desk, ("threads p 0", "-"), ("threads p 0,0,0", "-"), ("wrap p 0 0 0", "-"), ("unwrap p 0 0", "-"),
                     ("exchange c 1 0", "-"), ("rings c", "no"),
                     ("exchange c 1 0", "-"), ("rings c", "yes"), ("mend p 1", "-"), ("races p", "-"), ("mend p 0", "-"))
        self.same([desk["p"].threads(), desk["p"].bodies()], [[0, 0, 0], [(("hold", 0, (("write", 0),)),)]])
        for command, error, told in (
            ("threads p 1", InvalidThreads, {"value": [1]}), ("threads p 0,0,0,0,0", InvalidThreads, {"value": [0] * 5}),
            ("wrap p 1 0 0", InvalidProcedure, {"value": 1}),
            ("wrap p 0 0.0 0", InvalidPath, {"value": [0, 0]}), ("wrap p 0 1 0", NoSuchPath, {"path": [1]}),
            ("wrap p 0 0 1", InvalidLock, {"value": 1}),
            ("unwrap p 0 0.0.0", NotHold, {}), ("exchange p 0 0", NotNested, {}), ("exchange c 2 0", InvalidProcedure, {"value": 2}),
            ("mend p 3", InvalidMost, {"value": 3}),
            ("mend c 1", NoRepair, {}),
        ):
            self.refused(desk, error, told, command)
        for _ in range(4):
            desk.do("wrap p 0 0 0")
        self.refused(desk, TooDeep, {}, "wrap p 0 0 0")

    def test_questions(self):
        desk = self.made(BARE, CROSS, MODES, "goal g 0@0,1@1", "goal f 0@9,0@9", "row r 0>0/1>0", "row s -", "row x 3>0")
        self.answers(
            desk, ("places p", "2"), ("races p", "0,0,1,0,0"), ("races c", "-"), ("claims m", "0,2,1"), ("claims p", "-"),
            ("stands c", "yes"), ("stands p", "no"),
            ("rings c", "yes"), ("rings m", "no"), ("length p g", "1"), ("moments p r", "2"), ("moments p s", "0"), ("words p r 1", "1"),
            ("words c s 0", "5"),
            ("ahead c 1 0.0.0", "8"), ("ahead m 0 1", "2"), ("repairs p 0", "0"), ("repairs p 2", "1"), ("repairs m 2", "1"), ("repairs c 2", "0"),
        )
        for command, error, told in (
            ("length p f", InvalidGoal, {"value": [(0, 9), (0, 9)]}), ("length m g", InvalidGoal, {"value": [(0, 0), (1, 1)]}),
            ("moments p x", InvalidRow, {"value": [(((3, "behind", 0),), ())]}), ("words p r 2", InvalidThread, {"value": 2}),
            ("words p x 2", InvalidThread, {"value": 2}),
            ("words p x 1", InvalidRow, {"value": [(((3, "behind", 0),), ())]}), ("ahead c 2 0", InvalidProcedure, {"value": 2}),
            ("ahead c 0 0.0", InvalidPath, {"value": [0, 0]}),
            ("ahead c 0 1", NoSuchPath, {"path": [1]}), ("repairs p 3", InvalidMost, {"value": 3}),
        ):
            self.refused(desk, error, told, command)
        self.answers(self.made(BARE, "goal g 0@1,1@1", "wrap p 0 0 0", "goal h 0@3,1@3"), ("length p h", "-"), ("length p g", "6"))

    def test_eight_names(self):
        desk = self.made(*[f"goal g{at} 0@0" for at in range(8)])
        for command in ("goal x 0@0", "row x -", "copy x g0", "program x" + BARE[9:]):
            self.refused(desk, TooMany, {"what": "names", "limit": 8}, command)
        self.refused(desk, NameTaken, {"name": "g0"}, "row g0 -")
        self.refused(desk, UnknownName, {"value": "y"}, "copy x y")
        self.answers(desk, ("drop g3", "-"), ("row x -", "-"))
        self.refused(desk, TooMany, {"what": "names", "limit": 8}, "goal g3 0@0")
        # What is kept under a name already may be another one.
        self.answers(desk, ("drop x", "-"), (BARE, "-"), ("threads p 0", "-"), ("wrap p 0 0 0", "-"), ("names", "g0 g1 g2 g4 g5 g6 g7 p"))

    def test_200_deeds(self):
        desk = self.made(BARE, "claim k still p", *["threads p 0,0"] * 198)
        self.same(len(desk), 200)
        for command in ("threads p 0", "drop p", "forget k", "goal g 0@0", "wrap p 0 0 0", "claim l still p"):
            self.refused(desk, TooMany, {"what": "deeds", "limit": 200}, command)
        # What else is wrong is told first.
        self.refused(desk, InvalidThreads, {"value": [1]}, "threads p 1")
        self.refused(desk, UnknownName, {"value": "q"}, "drop q")
        self.refused(desk, InvalidClaim, {"value": ("race", desk["p"], (0,))}, "claim l race p 0")
        self.answers(desk, ("undo", "threads p 0,0"), ("redo", "threads p 0,0"), ("state k", "false"), ("undo", "threads p 0,0"),
                     ("drop p", "k gone"))
        self.refused(desk, TooMany, {"what": "deeds", "limit": 200}, "forget k")
        self.same(len(Desk.again(desk.lines())), 200)

    def test_names_come_ahead_of_deeds(self):
        desk = self.made(*[f"goal g{at} 0@0" for at in range(8)], *["drop g0", "goal g0 0@0"] * 96)
        self.same(len(desk), 200)
        self.refused(desk, TooMany, {"what": "names", "limit": 8}, "goal x 0@0")
        self.refused(desk, TooMany, {"what": "deeds", "limit": 200}, "drop g0")


class WrongCommandsTest(DeskCase):
    def test_what_is_no_command(self):
        desk = self.made(BARE)
        for value in (*STRANGE, "", "undo ", "show", "program q skip", "threads p a", "claim k meets p g", "wrap p 0 0 1000000", "goal g 0@0,"):
            self.is_false(is_command(value))
            self.refused(desk, InvalidCommand, {"value": value}, value)

    def test_what_is_taken_comes_first(self):
        desk = self.made(BARE, "goal g 0@0", "claim k still p")
        self.refused(desk, NameTaken, {"name": "p"}, "copy p nothing")
        self.refused(desk, NameTaken, {"name": "g"}, "copy g g")
        self.refused(desk, NameTaken, {"name": "g"}, BARE.replace(" p ", " g "))
        self.refused(desk, LabelTaken, {"label": "k"}, "claim k meet q h")
        self.refused(desk, LabelTaken, {"label": "k"}, "claim k race p 0")

    def test_names_under_which_nothing_of_the_sort_is_kept(self):
        desk = self.made(BARE, "goal g 0@0", "row r -", "claim k still p")
        for command, name in (
            ("drop q", "q"), ("show q", "q"), ("copy x q", "q"), ("threads g 0", "g"), ("wrap r 0 0 0", "r"), ("same q p", "q"),
            ("same p q", "q"), ("same p g", "g"),
            ("same g r", "r"), ("length p r", "r"), ("length g r", "g"), ("moments p g", "g"), ("words r g 0", "r"), ("words p g 0", "g"),
            ("claim l meet p r", "r"),
            ("claim l comes p g", "g"), ("claim l meet g p", "g"), ("claim l ring r", "r"), ("claim l race q 0", "q"), ("mend q 9", "q"),
            ("repairs g 9", "g"),
        ):
            self.refused(desk, UnknownName, {"value": name}, command)
        for command in ("state l", "claimed l", "forget l", "state p"):
            self.refused(desk, UnknownLabel, {"value": command.split(" ")[1]}, command)

    def test_a_claim_that_is_none(self):
        desk = self.made(BARE, "goal g 0@0,0@1", "row r 0@9", "goal h 0@0")
        program = desk["p"]
        for command, claim in (("meet p g", ("meet", program, [(0, 0), (0, 1)])), ("never p r", ("never", program, [(((0, "at", 9),), ())])),
                               ("race p 1,0,0,0,0", ("race", program, (1, 0, 0, 0, 0))), ("kept p 0,0", ("kept", program, (0, 0)))):
            ahead = all_of(desk)
            with self.assertRaises(InvalidClaim) as caught:
                desk.do("claim k " + command)
            self.is_true(caught.exception.value == claim)
            self.same(caught.exception.value[2].__class__, claim[2].__class__)
            self.same(all_of(desk), ahead)

    def test_a_claim_that_can_not_be_told(self):
        desk = self.made("program w " + lines_of(WIDE), "program n " + lines_of(WORDS), "goal g 0@0")
        self.refused(desk, TooMany, {"what": "withins", "limit": 20000}, "claim k meet w g")
        self.refused(desk, TooMany, {"what": "words", "limit": 1500}, "claim k ring n")
        self.refused(desk, TooMany, {"what": "withins", "limit": 20000}, "races w")


class ClaimsTest(DeskCase):
    def test_states(self):
        desk = self.made(BARE, "goal g 0@0,1@0", "row r 0>0")
        self.answers(
            desk, ("claim k meet p g", "k true"), ("claim a apart p g", "a false"), ("claim b comes p r", "b true"),
            ("claim x race p 0,0,1,0,0", "x true"),
            ("claim s still p", "s false"), ("states", "a false, b true, k true, s false, x true"), ("state s", "false"),
            ("claimed x", "race p 0,0,1,0,0"),
            ("wrap p 0 0 0", "x gone"), ("threads p 0", "a gone, k gone"), ("states", "a gone, b true, k gone, s false, x gone"),
            ("undo", "threads p 0"),
            ("undo", "wrap p 0 0 0"), ("states", "a false, b true, k true, s false, x true"), ("redo", "wrap p 0 0 0"), ("state x", "gone"),
            ("drop r", "b gone"),
            ("goal r 0@0", "-"), ("drop r", "-"), ("row r 1>0", "b true"), ("drop g", "a gone, k gone"),
            ("goal g 0@1,1@1", "a false, k true"), ("forget k", "-"),
            ("claim k moving p", "k true"),
        )
        self.same(desk.labels, ["a", "b", "k", "s", "x"])

    def test_claims_with_what_is_kept_now(self):
        desk = self.made(BARE, "goal g 0@0", "row r 0>0", "claim k meet p g", "claim b never p r", "claim x norace p 0,0,1,0,0", "claim s ringless p")
        for label, told in (("k", ("meet", [(0, 0)])), ("b", ("never", [(((0, "behind", 0),), ())])), ("x", ("norace", (0, 0, 1, 0, 0)))):
            claim = desk.claim_of(label=label)
            self.same((claim[0], *claim[2:]), told)
            self.is_true(claim[1] == desk["p"])
        self.same(len(desk.claim_of("s")), 2)
        desk.claim_of("k")[2].clear()
        self.same(desk.claim_of("k")[2], [(0, 0)])
        desk.do("threads p 0")
        self.same([desk.claim_of("x"), desk.claim_of("k")[1].threads()], [None, [0]])
        desk.do("drop p")
        self.same([desk.claim_of(label) for label in desk.labels], [None] * 4)

    def test_eight_labels(self):
        desk = self.made(BARE, *[f"claim k{at} still p" for at in range(8)])
        self.refused(desk, TooMany, {"what": "labels", "limit": 8}, "claim x still p")
        self.refused(desk, LabelTaken, {"label": "k7"}, "claim k7 still p")
        self.refused(desk, InvalidClaim, {"value": ("race", desk["p"], (0,))}, "claim x race p 0")
        self.answers(desk, ("forget k3", "-"), ("claim x still p", "x false"),
                     ("drop p", "k0 gone, k1 gone, k2 gone, k4 gone, k5 gone, k6 gone, k7 gone, x gone"))

    def test_all_twelve_words(self):
        desk = self.made(CROSS, MODES, BARE, "goal g 0@2,1@8", "goal h 0@4,1@8", "row r 0>1/1>6", "row s 0@4/0@4,1@10")
        for words, state in (
            ("meet c g", "true"), ("apart c g", "false"), ("meet c h", "false"), ("apart c h", "true"), ("comes c r", "true"),
            ("never c r", "false"), ("comes c s", "false"),
            ("never c s", "true"), ("race p 0,0,1,0,0", "true"), ("norace p 0,0,1,0,0", "false"), ("broken m 0,2,1", "true"),
            ("kept m 0,2,1", "false"), ("still c", "true"),
            ("moving c", "false"), ("still m", "false"), ("moving m", "true"), ("ring c", "true"), ("ringless c", "false"),
            ("ring p", "false"), ("ringless p", "true"),
        ):
            self.answers(desk, ("claim k " + words, "k " + state), ("claimed k", words), ("state k", state), ("forget k", "-"))

    def test_gone_as_too_many(self):
        # Under the name is kept what has too many withins, or too many words.
        desk = self.made(BARE, "goal g 0@0", "claim k meet p g", "claim s moving p")
        for program, answer, states in ((WIDE, "-", "k gone, s gone"), (WORDS, "k true", "k true, s gone")):
            ahead = all_of(desk)
            self.answers(desk, ("drop p", "k gone, s gone"), (f"program p {lines_of(program)}", answer), ("states", states))
            self.same([desk.claim_of("s"), desk.fits("s")], [None, False])
            self.fails(InvalidPaper, {"value": []}, desk.attach, "s", [])
            desk.do_all("undo", "undo")
            self.same(all_of(desk)[:4], ahead[:4])

    def test_long_schedules_are_no_hindrance_to_rows(self):
        desk = self.made("program p " + lines_of(long_way(1)), "goal g 0@1", "claim k meet p g")
        self.answers(desk, ("state k", "true"), ("length p g", "402"))


class UndoTest(DeskCase):
    def test_undo_and_redo(self):
        desk = self.made(BARE, "goal g 0@0", "claim k meet p g", "drop g")
        self.same([len(desk), desk.lines()], [4, [BARE, "goal g 0@0", "claim k meet p g", "drop g"]])
        self.answers(desk, ("undo", "drop g"), ("undo", "claim k meet p g"), ("states", "-"), ("names", "g p"))
        self.same([len(desk), desk.lines(), desk.labels], [2, [BARE, "goal g 0@0"], []])
        self.answers(desk, ("redo", "claim k meet p g"), ("state k", "true"), ("redo", "drop g"), ("state k", "gone"))
        self.refused(desk, NothingToRedo, {}, "redo")
        self.answers(desk, *[("undo", line) for line in desk.lines()[::-1]], ("names", "-"))
        self.refused(desk, NothingToUndo, {}, "undo")
        self.answers(desk, ("redo", BARE), ("names", "p"))

    def test_a_deed_between(self):
        desk = self.made(BARE, "goal g 0@0", "row r -")
        self.answers(desk, ("undo", "row r -"), ("undo", "goal g 0@0"), ("show p", BARE[10:]), ("redo", "goal g 0@0"))
        self.refused(desk, NameTaken, {"name": "p"}, "goal p 0@0")
        self.refused(desk, InvalidThreads, {"value": [7]}, "threads p 7")
        # What fails, and what is no deed, is none between.
        self.answers(desk, ("redo", "row r -"), ("undo", "row r -"), ("threads p 0", "-"))
        self.refused(desk, NothingToRedo, {}, "redo")
        self.answers(desk, ("undo", "threads p 0"), ("redo", "threads p 0"))

    def test_attaching_is_no_deed(self):
        desk = self.made(BARE, "goal g 0@0", "claim k meet p g", "row r -")
        desk.do("undo")
        desk.attach("k", [])
        self.same([len(desk), desk.fits("k")], [3, True])
        self.answers(desk, ("redo", "row r -"), ("undo", "row r -"), ("undo", "claim k meet p g"), ("redo", "claim k meet p g"))
        self.is_true(desk.fits("k"))


class ManyTest(DeskCase):
    def test_do_all(self):
        desk = Desk()
        self.same(desk.do_all(BARE, "places p", "undo", "redo"), ["-", "2", BARE, BARE])
        ahead = all_of(desk)
        for at, bad, cause in ((0, "undo it", InvalidCommand), (1, "drop q", UnknownName), (2, "threads p 3", InvalidThreads),
                               (3, None, InvalidCommand), (2, "goal p 0@0", NameTaken),
                               (1, "mend p 0", NoRepair), (2, "claim k race p 0", InvalidClaim), (1, "redo", NothingToRedo)):
            commands = ["goal g 0@0", "wrap p 0 0 0", "unwrap p 0 0", "claim k still p"][:at] + [bad, "drop p"]
            for action in (desk.do_all, desk.attempt):
                with self.assertRaises(CommandFailed) as caught:
                    action(*commands)
                self.same([vars(caught.exception), caught.exception.__cause__.__class__], [{"position": at}, cause])
                self.same(all_of(desk), ahead)

    def test_attempt(self):
        desk = self.made(BARE, "claim k race p 0,0,1,0,0")
        ahead = all_of(desk)
        self.same(desk.attempt("wrap p 0 0 0", "names", "undo", "drop p", "undo", "undo", "states"),
                  ["k gone", "p", "wrap p 0 0 0", "k gone", "drop p", "claim k race p 0,0,1,0,0", "-"])
        self.same(all_of(desk), ahead)
        self.refused(desk, NothingToRedo, {}, "redo")

    def test_the_cause_has_its_attributes(self):
        desk = Desk()
        with self.assertRaises(CommandFailed) as caught:
            desk.do_all(BARE, "length p g")
        self.same([caught.exception.position, caught.exception.__cause__.value], [1, "g"])

    def test_copies(self):
        desk = self.made(BARE, "goal g 0@0", "claim k meet p g", "drop g")
        desk.do("undo")
        desk.attach("k", [])
        other = desk.copy()
        self.same([all_of(other), other.__class__ is Desk, other is desk], [all_of(desk), True, False])
        self.same([other.do("redo"), other.fits("k"), desk.fits("k"), len(desk)], ["drop g", False, True, 3])
        ahead = all_of(other)
        desk.do_all("drop p", "forget k")
        self.same([all_of(other), other.names, desk.names], [ahead, ["p"], ["g"]])

    def test_again(self):
        desk = self.made(BARE, "goal g 0@0", "claim k meet p g", "wrap p 0 0 0", "mend p 1", "drop g")
        for lines in (desk.lines(), tuple(desk.lines())):
            other = Desk.again(lines)
            self.same([all_of(other), other.__class__ is Desk], [all_of(desk), True])
        self.same(len(Desk.again(lines=[])), 0)
        for value in (*STRANGE, "undo", {0: BARE}):
            if value != [] and value != [None] and value != (None,) and value != (((),),):
                self.fails(InvalidDeeds, {"position": None}, Desk.again, value)
        for lines, at in (([None], 0), ([BARE, "undo"], 1), ([BARE, "names", "drop q"], 1), (["drop q", BARE, ["drop p"]], 2),
                          ((BARE, "show p"), 1), ([BARE, "drop  p"], 1)):
            self.fails(InvalidDeeds, {"position": at}, Desk.again, lines)
        for lines, at, cause in ((["drop q"], 0, UnknownName), ([BARE, "threads p 2", "drop q"], 1, InvalidThreads), ([BARE, BARE], 1, NameTaken)):
            with self.assertRaises(CommandFailed) as caught:
                Desk.again(lines)
            self.same([caught.exception.position, caught.exception.__cause__.__class__], [at, cause])
        with self.assertRaises(CommandFailed) as caught:
            Desk.again([BARE, *["threads p 0"] * 200])
        self.same([caught.exception.position, vars(caught.exception.__cause__)], [200, {"what": "deeds", "limit": 200}])


class PapersTest(DeskCase):
    def test_papers_that_fit_and_fit_no_more(self):
        desk = self.made(BARE, "claim k race p 0,0,1,0,0", "goal g 0@1,1@1", "claim m meet p g")
        self.same([desk.fits("k"), desk.attach(label="k", paper=[]), desk.fits(label="k"), desk.fits("m")], [False, None, True, False])
        desk.attach("m", ((1, 0), (0, 0)))
        self.is_true(desk.fits("m"))
        desk.do("wrap p 0 0 0")
        self.same([desk.do("states"), desk.fits("k"), desk.fits("m")], ["k gone, m true", False, False])
        desk.do("undo")
        self.same([desk.fits("k"), desk.fits("m")], [True, True])
        desk.do("threads p 0")
        self.same([desk.fits("k"), desk.fits("m"), desk.do("states")], [False, False, "k gone, m gone"])
        desk.do("threads p 0,0,0")
        self.same([desk.fits("k"), desk.fits("m")], [True, True])

    def test_papers_of_the_contrary(self):
        desk = self.made(CROSS, "goal g 0@4,1@8", "claim k meet c g", "claim s moving c")
        table = paper_of(("apart", desk["c"], desk["g"]))
        desk.attach("k", table)
        desk.attach("s", [(0, 0), (1, 5)])
        self.same([desk.fits("k"), desk.fits("s"), desk.do("states")], [True, True, "k false, s false"])
        # Without the ring there is another truth, and the paper is none any more.
        desk.do("exchange c 1 0")
        self.same([desk.do("states"), desk.fits("k"), desk.fits("s")], ["k false, s true", False, False])
        desk.attach("s", paper_of(("moving", desk["c"])))
        self.is_true(desk.fits("s"))
        desk.do("undo")
        self.same([desk.fits("k"), desk.fits("s")], [True, False])

    def test_of_what_a_paper_was_kept_for(self):
        # A paper of a claim doesn't fit where its contrary is noted now, though it would be one of the contrary's contrary.
        desk = self.made(BARE, "claim k race p 0,0,1,0,0")
        desk.attach("k", [])
        desk.do_all("forget k", "claim k norace p 0,0,1,0,0")
        self.same([desk.do("state k"), desk.fits("k")], ["false", False])
        desk.attach("k", [])
        self.is_true(desk.fits("k"))
        desk.do_all("undo", "undo")
        self.same([desk.do("claimed k"), desk.fits("k")], ["race p 0,0,1,0,0", False])

    def test_a_label_noted_anew(self):
        desk = self.made(BARE, "goal g 0@0", "copy q p", "claim k meet p g")
        desk.attach("k", [])
        desk.do("forget k")
        self.fails(UnknownLabel, {"value": "k"}, desk.fits, "k")
        desk.do("claim k meet p g")
        self.is_true(desk.fits("k"))
        # The same claim in other words.
        desk.do_all("forget k", "claim k meet q g")
        self.same([desk.do("state k"), desk.fits("k")], ["true", False])
        desk.do_all("forget k", "claim k meet p g", "drop p", "copy p q")
        self.is_true(desk.fits("k"))

    def test_wrong_papers(self):
        desk = self.made(BARE, CROSS, "goal g 0@1", "claim k meet p g", "claim s ringless c")
        desk.attach("k", [(0, 0)])
        for value in (*STRANGE, [(1, 0)], [], [[(0, 0)]], [(0, 0), (0, 0)], ([], [])):
            self.fails(InvalidPaper, {"value": value}, desk.attach, "k", value)
            self.fails(InvalidPaper, {"value": value}, desk.attach, "s", value)
        # The one that was kept stays.
        self.same([desk.fits("k"), desk.fits("s")], [True, False])
        desk.do("drop g")
        self.fails(InvalidPaper, {"value": [(0, 0)]}, desk.attach, "k", [(0, 0)])
        self.is_false(desk.fits("k"))

    def test_papers_are_copied(self):
        desk = self.made(CROSS, "claim s ring c", "claim t ringless c", "goal g 0@2", "claim k apart c g", "row r 0@2", "claim m comes c r")
        papers = {"s": ([(0, 0), (1, 5)], [0, 1]), "t": ([(0, 0), (1, 5)], [1, 0]), "k": [(0, 0)], "m": [[(0, 0)]]}
        for label, paper in papers.items():
            desk.attach(label, paper)
        papers["s"][0].clear()
        papers["t"][1].append(0)
        papers["k"].append(None)
        papers["m"][0].clear()
        self.same([desk.fits(label) for label in "stkm"], [True] * 4)

    def test_tables(self):
        desk = self.made(CROSS, "row r 0@4/0@4,1@10", "claim k never c r", "threads c 0", "claim s moving c", "undo", "undo")
        table = paper_of(desk.claim_of("k"))
        desk.attach("k", table)
        table[0][1].clear()
        self.is_true(desk.fits("k"))
        self.fails(InvalidPaper, {"value": table}, desk.attach, "k", table)


class TrialTest(DeskCase):
    def test_blocks(self):
        desk = self.made(BARE, "claim k race p 0,0,1,0,0", "goal g 0@0")
        desk.attach("k", [])
        desk.do("undo")
        ahead = all_of(desk)
        with Trial(desk=desk) as held:
            self.is_true(held is desk)
            held.do_all("drop p", "undo", "undo", "names")
            held.do("row r -")
        self.same(all_of(desk), ahead)
        self.answers(desk, ("redo", "goal g 0@0"), ("undo", "goal g 0@0"))

    def test_an_error_leaves_the_block(self):
        desk = self.made(BARE, "claim k race p 0,0,1,0,0")
        ahead = all_of(desk)
        with self.assertRaises(UnknownName):
            with Trial(desk) as held:
                held.do("wrap p 0 0 0")
                held.do("drop q")
        with self.assertRaises(KeyError):
            with Trial(desk):
                desk.attach("k", [])
                raise KeyError
        self.same(all_of(desk), ahead)

    def test_a_trial_once_more(self):
        desk = self.made(BARE)
        trial = Trial(desk)
        desk.do("goal g 0@0")
        for _ in range(2):
            with trial as held:
                held.do("drop g")
            self.same(desk.names, ["g", "p"])
            desk.do("threads p 0")
        self.same(len(desk), 4)

    def test_tried(self):
        desk = self.made(BARE, "claim k race p 0,0,1,0,0")
        ahead = all_of(desk)

        def action(held):
            held.attach("k", [])
            held.do("mend p 1")
            return races(held["p"]), held.do("states")

        self.same([tried(desk, action), tried(action=lambda held: held, desk=desk) is desk], [([], "k gone"), True])
        with self.assertRaises(UnknownName):
            tried(desk, lambda held: held["q"])
        self.same(all_of(desk), ahead)


def any_command(told):
    """Some command of a small world, most of them ones that can be done."""
    name, goal, row, label = told.choice("pq"), told.choice("gh"), told.choice("rs"), told.choice("klmn")
    any_name = told.choice("pqghrs")
    place, path = told.randrange(8), ".".join([str(told.randrange(2)) for _ in range(told.choice((1, 1, 3, 3, 2)))])
    count = told.choice((0, 0, 0, 1, 1, 2))
    if told.random() < 0.25:
        program = program_of_seed(told, told.choice((1, 2, 2)), told.choice((3, 4)), 1)
        return f"program {name} {lines_of(program)}"
    if told.random() < 0.35:
        said = told.choice((f"meet {name} {goal}", f"apart {name} {goal}", f"comes {name} {row}", f"never {name} {row}", f"still {name}",
                            f"moving {name}", f"ring {name}",
                            f"ringless {name}", f"race {name} 0,{place},1,{told.randrange(8)},0", f"kept {name} 0,{place},1"))
        return f"claim {label} {said}"
    return told.choice((
        f"goal {goal} 0@{place}", f"goal {goal} 0@{place},1@{told.randrange(8)}", f"row {row} 0@{place}",
        f"row {row} 0>{place}/1>{told.randrange(5)}!0>1", f"row {any_name} -",
        f"threads {name} {count}", f"threads {name} 0,{count}", f"wrap {name} {count} {path} {count}", f"unwrap {name} {count} {path}",
        f"exchange {name} {count} {path}",
        f"mend {name} {count}", f"copy {any_name} {told.choice('pqghrs')}", f"drop {any_name}", f"forget {label}", "undo", "undo", "redo",
        f"state {label}", "states",
        f"claimed {label}", "names", f"show {any_name}", f"same {any_name} {told.choice('pqghrs')}", f"places {name}",
        f"words {name} {row} {count}", f"ahead {name} {count} {path}",
        f"length {name} {goal}", f"moments {name} {row}", f"races {name}", f"claims {name}", f"stands {name}", f"rings {name}",
        f"repairs {name} {count}",
    ))


class PlainTest(DeskCase):
    def test_against_a_plain_desk(self):
        met, failed = {}, {}
        for seed in range(60):
            told = random.Random(seed)
            desk, plain = Desk(), PlainDesk()
            for _ in range(30):
                command = any_command(told)
                self.is_true(is_command(command))
                try:
                    later, answer = plain.answer(command)
                except ERRORS as error:
                    with self.assertRaises(error.__class__) as caught:
                        desk.do(command)
                    self.is_true(vars(caught.exception) == vars(error))
                    failed[error.__class__.__name__] = True
                else:
                    self.same([command, desk.do(command)], [command, answer])
                    met[command.split(" ")[0]] = True
                    plain = later
                self.same([desk.names, desk.labels, desk.lines(), len(desk)],
                          [sorted(plain.things), sorted(plain.claims), plain.done, len(plain.done)])
            self.same(desk.do("states"), plain.told("states", []))
            self.same(all_of(Desk.again(desk.lines()))[:3], all_of(desk)[:3])
            for label in desk.labels:
                claim = desk.claim_of(label)
                self.is_true(claim == (None if plain.state(label) == "gone" else plain.claim(plain.claims[label])))
                if claim is not None:
                    paper = paper_of(claim) if desk.do("state " + label) == "true" else None
                    self.same(paper is not None and is_paper_of(claim, paper), desk.do("state " + label) == "true")
        self.assertGreater(len(met), 25)
        self.assertLessEqual({"NameTaken", "LabelTaken", "UnknownName", "UnknownLabel", "NothingToUndo", "NothingToRedo", "InvalidClaim",
                              "InvalidGoal", "NoSuchPath"}, set(failed))

    def test_meetings_of_the_desk(self):
        desk = self.made(CROSS, "goal g 0@2,1@8")
        self.same(can_meet(desk["c"], [(tuple([(thread, "at", place) for thread, place in desk["g"]]), ())]), True)
