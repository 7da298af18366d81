"""Small programs and rows, and what the plain machine alone, or the document's words alone, tell of them."""

import itertools
import random

from cutruns.machine import Machine
from cutruns.programs import Program, with_threads


def body_of(told, shape, depth, left):
    """A body of the shape; left is a list of how many statements there may be yet."""
    words = ("skip", "hold", "hold", "hold", "call", "either", "set", "when", "loop", "mark")
    small = ("skip", "call", "set")
    if shape[1] > 0:
        words, small = (*words, "touch", "write", "write", "claim"), (*small, "touch", "write", "claim")
    found = []
    for _ in range(told.choice((0, 1, 1, 2, 2, 3))):
        if left[0] == 0:
            break
        left[0] -= 1
        word = told.choice(words if depth < 4 else small)
        bounds = {"hold": shape[0], "call": shape[3], "set": shape[2], "when": shape[2], "claim": shape[2], "mark": 10}
        count = {**bounds, "touch": shape[1], "write": shape[1]}.get(word)
        counts = [] if count is None else [told.randrange(count)]
        bodies = {"hold": 1, "either": 2, "when": 2, "loop": 1}.get(word, 0)
        found.append((word, *counts, *[body_of(told, shape, depth + 1, left) for _ in range(bodies)]))
    return tuple(found)


def program_of_seed(told, threads, size, cells=0):
    """A program with so many threads and cells and about so many statements."""
    shape = (told.choice((1, 2, 3)), cells, told.choice((1, 2)), told.choice((1, 2, 2, 3)))
    left = [size]
    bodies = [body_of(told, shape, 1, left) for _ in range(shape[3])]
    return Program(*shape[:3], bodies, [told.randrange(shape[3]) for _ in range(threads)])


def any_row(told, program):
    """A row whose items and bans are any at all."""
    machine = Machine(program)
    threads, row = range(len(machine.homes)), []
    for _ in range(told.choice((1, 1, 2, 2, 3))):
        items = []
        for thread in threads:
            place, mode = told.randrange(machine.flow.places), told.randrange(program.modes)
            what = {"at": place, "in": (place, mode), "behind": told.randrange(machine.back + 1)}
            word = told.choice(("at", "in", "behind", None))
            if word is not None:
                items.append((thread, word, what[word]))
        row.append((tuple(told.sample(items, len(items))), bans_of(told, machine)))
    return row


def met_row(told, program):
    """A row that some schedule of the program meets, but for its bans, and some places now and then."""
    machine = Machine(program)
    state, row = machine.first(), []
    for _ in range(told.choice((1, 2, 2, 3))):
        last, items = {}, []
        for _ in range(told.randrange(8)):
            events = machine.possible(state)
            if events:
                event = told.choice(events)
                state = machine.after(state, event)
                last[event[0]] = event[1]
        for thread, (mode, stack) in enumerate(state[0]):
            place = stack[-1] if told.random() < 0.85 else told.randrange(machine.flow.places)
            what = {"at": place, "in": (place, mode), "behind": last.get(thread)}
            word = told.choice(("at", "in", "behind", None))
            if word is not None and what[word] is not None:
                items.append((thread, word, what[word]))
        row.append((tuple(items), bans_of(told, machine)))
    return row


def bans_of(told, machine):
    """Some bans, mostly none."""
    return tuple([(told.randrange(len(machine.homes)), told.randrange(machine.back + 1)) for _ in range(told.choice((0, 0, 1, 2)))])


def programs_and_rows(seeds, threads, size, row):
    """A program, and a row of it, for each of the seeds."""
    for seed in seeds:
        told = random.Random(seed)
        program = program_of_seed(told, told.choice(threads), told.choice(size))
        yield told, program, row(told, program)


def begin_at(program, procedure, mode):
    """The machine of one thread that begins with the procedure, and the state in which it does so in the mode."""
    machine = Machine(with_threads(program, [procedure]))
    threads, owners = machine.first()
    return machine, (((mode, threads[0][1]),), owners)


def local_runs(program, procedure, mode, most, many):
    """All runs of one thread of at most so many numbers, with the states behind them, and this most.

    The most is less where there would be too many.
    """
    machine, state = begin_at(program, procedure, mode)
    found, row = [], [((), state)]
    for length in range(most + 1):
        found.extend(row)
        longer = []
        for numbers, state in row:
            longer.extend([((*numbers, number), machine.after(state, (0, number))) for _, number in machine.possible(state)])
        row = longer
        if len(found) + len(row) > many:
            return found, length
    return found, most


def cuts_of(numbers, legs):
    """All ways to cut the numbers into so many legs."""
    for cuts in itertools.combinations_with_replacement(range(len(numbers) + 1), legs - 1):
        bounds = (0, *cuts, len(numbers))
        yield [list(numbers[near:far]) for near, far in zip(bounds, bounds[1:])]


def is_so(row, leg, thread, mode, place, numbers):
    """Whether the thread's item of the leg is so, behind these numbers of this leg."""
    for one, word, what in row[leg][0]:
        if one == thread:
            return {"at": place == what, "in": (place, mode) == what, "behind": numbers[-1:] == [what]}[word]
    return True


def is_banned(row, leg, thread, numbers):
    return any([(thread, number) in row[leg][1] for number in numbers])


def late_mode(program, procedure, mode, row, phase, legs, thread, last_cut):
    """The mode behind a run that goes as the row wants from the phase on, None if it goes otherwise."""
    machine, state = begin_at(program, procedure, mode)
    for at, numbers in enumerate(legs):
        if is_banned(row, phase + at, thread, numbers):
            return None
        for number in numbers:
            state = machine.after(state, (0, number))
        later, stack = state[0][0]
        if at < len(legs) - 1 or last_cut:
            if not is_so(row, phase + at, thread, later, stack[-1], numbers):
                return None
    return later


def plain_word(program, legs):
    """The word of a cut run, as [4a3] tells it."""
    moves = Machine(program).steps
    numbers = [(leg, number) for leg, told in enumerate(legs) for number in told]
    edges = [moves[number][1:3] if number < len(moves) else (None, None) for _, number in numbers]
    given, held = {}, []
    for at, (kind, _) in enumerate(edges):
        if kind == "take":
            held.append(at)
        elif kind == "give":
            taken = held.pop()
            given[taken], given[at] = numbers[at][0], numbers[taken][0]
    parts = [["start", None, []]]
    for leg in range(len(legs)):
        for at, (kind, lock) in enumerate(edges):
            if numbers[at][0] != leg or kind not in ("take", "give"):
                continue
            if given.get(at) != leg:
                parts.append([kind, lock, []])
            elif kind == "take":
                parts[-1][2].append(lock)
        parts.append(["cut", None, []])
    return tuple([(edge, lock, tuple(sorted(set(used)))) for edge, lock, used in parts])


def can_be_woven(program, runs):
    """Whether the runs can be woven, by trying each way."""
    machine = Machine(program)
    ready = {machine.first()}
    for leg in range(len(runs[0][1])):
        seen, left, ready = set(), [(state, (0,) * len(runs)) for state in ready], set()
        while left:
            state, done = left.pop()
            if (state, done) in seen:
                continue
            seen.add((state, done))
            if all([at == len(run[leg]) for at, (_, run) in zip(done, runs)]):
                ready.add(state)
            for which, (thread, run) in enumerate(runs):
                at = done[which]
                if at < len(run[leg]) and machine.is_possible(state, (thread, run[leg][at])):
                    later = machine.after(state, (thread, run[leg][at]))
                    left.append((later, (*done[:which], at + 1, *done[which + 1:])))
    return len(ready) > 0


def any_run(told, program, thread, legs, most):
    """Some cut run of the thread."""
    machine, state = begin_at(program, program.threads()[thread], 0)
    numbers = []
    for _ in range(told.randrange(most + 1)):
        events = machine.possible(state)
        if events:
            numbers.append(told.choice(events)[1])
            state = machine.after(state, (0, numbers[-1]))
    cuts = sorted([told.randrange(len(numbers) + 1) for _ in range(legs - 1)])
    bounds = (0, *cuts, len(numbers))
    return [numbers[near:far] for near, far in zip(bounds, bounds[1:])]


def fewest_events(program, row, deep, most):
    """The fewest events of schedules that meet the row, by the plain machine, stacks being at most so deep.

    A tuple of them, None if there are none, and whether all schedules were looked through: not if one has a deeper
    stack, nor if there are more than so many states.
    """
    machine, legs, threads = Machine(program), len(row), range(len(program.threads()))
    level = [(machine.first(), 0, (None,) * len(threads))]
    seen, whole, events = set(level), True, 0
    while level and len(seen) <= most:
        later = []
        for state, leg, last in level:
            # As many cuts as can be made here: more of them are no event more.
            while leg < legs and all([is_so(row, leg, thread, state[0][thread][0], state[0][thread][1][-1], [last[thread]]) for thread in threads]):
                later.extend(steps_from(machine, row, state, leg, last))
                leg, last = leg + 1, (None,) * len(threads)
            if leg == legs:
                return events, whole
            later.extend(steps_from(machine, row, state, leg, last))
        found = [one for one in later if max([len(stack) for _, stack in one[0][0]]) <= deep]
        whole = whole and len(found) == len(later)
        level = sorted(set(found) - seen, key=repr)
        seen.update(level)
        events += 1
    return None, whole and not level


def steps_from(machine, row, state, leg, last):
    """What comes of the state, the leg and the last numbers of the threads in it, by one event."""
    for thread, number in machine.possible(state):
        if (thread, number) not in row[leg][1]:
            yield machine.after(state, (thread, number)), leg, (*last[:thread], number, *last[thread + 1:])


def fewest_until(program, deep, most, holds):
    """The fewest events to a state for which it holds, by the plain machine, stacks being at most so deep.

    A tuple of them, None if there are none, and whether all states were looked at: not if one has a deeper stack, nor if
    there are more than so many.
    """
    machine = Machine(program)
    level = [machine.first()]
    seen, whole, events = set(level), True, 0
    while level and len(seen) <= most:
        if any([holds(state) for state in level]):
            return events, whole
        later = {machine.after(state, event): True for state in level for event in machine.possible(state)}
        found = [state for state in later if max([len(stack) for _, stack in state[0]]) <= deep]
        whole = whole and len(found) == len(later)
        level = [state for state in found if state not in seen]
        seen.update(level)
        events += 1
    return None, whole and not level
