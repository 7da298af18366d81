"""That each function and class of the interface is defined in its own file, with its arguments."""

import importlib
import inspect
import re
import unittest

LISTED = {
    "basics": "is_integer(value) is_count(value)",
    "statements": "is_shape(value) is_body(shape, value) size_of(shape, body) locks_in(shape, body) calls_in(shape, body) "
    "paths_of(shape, body) at_path(shape, body, path) with_path(shape, body, path, part)",
    "programs": "Program(locks, cells, modes, bodies, threads) with_threads(program, threads)",
    "readers": "program_text(program) program_of(text)",
    "flows": "Flow(program)",
    "callings": "calls_of(program) is_recursive(program) reached(program, thread) deepest(program) dead_places(program)",
    "machine": "begin_state(program) is_state(program, value) events(program, state) done(program, state, event) "
    "replayed(program, schedule) is_schedule(program, value) has_ended(program, state, thread) "
    "stands_at(program, state, thread) row_of(program, state, thread) is_still(program, state) blocks_at(program, place)",
    "explorer": "states_of(program, deep) stills_of(program, deep) meets(state, goal) first_schedule(program, goal, deep)",
    "rows": "is_moments(program, value) row_threads(program, row) one_goal(program, goal) "
    "is_fitting(program, thread, row, value)",
    "words": "word_of(program, thread, runs) state_of(program, thread, runs) is_word(program, value) legs_of(word) "
    "held_at(word, leg) then_word(word, other)",
    "orders": "are_words(value) nodes_of(words, leg) arrows_of(words, leg) agree(words) order_of(words) bar_of(words) "
    "is_order(words, value) is_bar(words, value)",
    "throughs": "throughs(program, thread, row) length_through(program, thread, row, through) "
    "run_through(program, thread, row, through) is_run_through(program, thread, row, through, value)",
    "ends": "ends(program, thread, row) length_to(program, thread, row, word) run_to(program, thread, row, word)",
    "weaving": "pieces_of(program, thread, runs) woven(program, runs) is_woven(program, runs, value) apart(program, legs)",
    "meetings": "can_meet(program, row) meeting_length(program, row) meeting(program, row) is_meeting(program, row, value)",
    "tables": "least_table(program, row) is_table(program, row, value)",
    "judges": "is_closed(program, row, value) first_lacking(program, row, table) paper_apart(program, row) "
    "is_apart(program, row, value)",
    "accesses": "touches(program, place) claims_at(program, place)",
    "races": "is_race(program, value) races(program) race_schedule(program, race) is_broken(program, value) "
    "broken_claims(program) claim_schedule(program, broken)",
    "torn": "can_be_ahead(program, thread, move, other, far) ahead_legs(program, thread, move, other, far) "
    "torn_row(program, torn) is_torn(program, value) torn_legs(program, torn) pulls(program, cell) torn_pairs(program, cell)",
    "stills": "waits_for(program, place) waiting(program, state) still_schedule(program) moving_paper(program) "
    "is_moving_paper(program, value) is_ring(program, state, value) ring_schedule(program) ringless_paper(program) "
    "is_ringless_paper(program, value)",
    "crowds": "crowd_of(program, kinds) ring_in_crowd(program) is_crowd_ring(program, value) meet_in_crowd(program, places)",
    "repairs": "wrapped(program, procedure, path, lock) unwrapped(program, procedure, path) exchanged(program, procedure, path) "
    "repaired(program, wraps) is_helping(program, wraps) raceless(program, most)",
    "texts": "is_of_sort(program, sort, value) written(program, sort, value) read(program, sort, text)",
    "claims": "words() is_claim(value) contrary(claim) is_true(claim) paper_of(claim) is_paper_of(claim, value)",
    "commands": "is_name(value) is_command(value) is_deed(value)",
    "desk": "Desk() Trial(desk) tried(desk, action)",
}
METHODS = {
    ("programs", "Program"): "bodies threads shape __eq__ locks cells modes",
    ("flows", "Flow"): "moves moves_from begin_of end_of procedure_of place_ahead places many_moves",
    ("desk", "Desk"): "names labels claim_of do do_all attempt attach fits lines copy again __len__ __getitem__ __contains__ __call__",
    ("desk", "Trial"): "__enter__ __exit__",
}
GIVEN = {
    "claim_of": "self, label", "do": "self, command", "do_all": "self, *commands", "attempt": "self, *commands", "attach": "self, label, paper",
    "fits": "self, label", "lines": "self", "copy": "self", "__call__": "self, command",
}


class InterfaceTest(unittest.TestCase):
    def test_functions_and_classes(self):
        for file, listed in LISTED.items():
            module = importlib.import_module("cutruns." + file)
            for name, told in re.findall(r"(\w+)\((.*?)\)", listed):
                thing = getattr(module, name)
                self.assertEqual(thing.__module__, module.__name__, name)
                self.assertEqual(list(inspect.signature(thing).parameters), told.split(", ") if told else [], name)

    def test_methods(self):
        for (file, name), listed in METHODS.items():
            made = getattr(importlib.import_module("cutruns." + file), name)
            for method in listed.split():
                self.assertIn(method, vars(made))

    def test_arguments_of_the_desk(self):
        desk = importlib.import_module("cutruns.desk").Desk
        for method, given in GIVEN.items():
            self.assertEqual([str(one) for one in inspect.signature(vars(desk)[method]).parameters.values()], given.split(", "))
        self.assertEqual(list(inspect.signature(desk.again).parameters), ["lines"])
        self.assertIsInstance(vars(desk)["again"], classmethod)
        self.assertIsInstance(vars(desk)["names"], property)
