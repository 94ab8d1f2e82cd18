"""The guarantees over the whole: one list of flips as a history, a house, a program, powers and a watcher."""

import itertools
import unittest

from models import (
    all_bits, all_flips, bits_after, bits_of, board_of, chance_for, least_flips, parity_of, rank_of_rows, some_bits,
    some_cells, some_flip, some_flips, switch_entry,
)
from paritycells.compiling import call_flips, call_table, run_call
from paritycells.depth import are_independent, changes_of, depth_of, witness_of
from paritycells.desk import Desk
from paritycells.errors import Known, Unknown
from paritycells.flips import Flip, apply_flip
from paritycells.folding import acting_stamps, deeds_table, difference_of, mattering_stamps
from paritycells.histories import History
from paritycells.houses import House
from paritycells.historytexts import history_text, read_history
from paritycells.past import board_at, cells_today, does_matter, flip_today, has_acted, parity_at
from paritycells.powers import board_after, board_midway, power_of
from paritycells.programs import Program
from paritycells.sequences import apply_flips, do_commute
from paritycells.shortest import shortest_ending_at, shortest_flips, switching_flips
from paritycells.tables import are_alike, table_of
from paritycells.watchers import Watcher

HANDS = ["ann", "bob", "cy"]
NAMES = ("a", "b", "c", "d", "e", "f", "g", "h")
HUGE = 10 ** 30


class Whole:
    """One list of flips: as rows with a stamp, a flip and whether it stands, and as everything that the package has."""

    def __init__(self, *seed, size, many):
        chance = chance_for("whole", *seed, size, many)
        self.size = size
        self.bits = some_bits(chance, size)
        self.flips = some_flips(chance, size, many)
        # Some neighbours have the same time, so that their hands decide.
        stamps = sorted({(2 * (index // 2) + 1, HANDS[index % 2], index) for index in range(many)})
        self.rows = [(stamp, flip, chance.random() < 0.7) for stamp, flip in zip(stamps, self.flips)]
        self.chance = chance

    def standing(self, rows=None):
        return [flip for stamp, flip, stands in (self.rows if rows is None else rows) if stands]

    def stamps(self):
        return [stamp for stamp, flip, stands in self.rows]

    def history(self, bits=None):
        """Return the history, entered in some order, with these states at the start."""
        made = History(board_of(self.bits if bits is None else bits))
        for stamp, flip, stands in self.chance.sample(self.rows, len(self.rows)):
            made.enter(stamp, flip)
            if not stands:
                made.remove(stamp)
        return made

    def entries(self):
        return [(stamp, flip, stands, 0 if stands else 1) for stamp, flip, stands in self.rows]

    def house(self):
        """Return the house, which received the entries in some order."""
        made = House(HANDS, board_of(self.bits))
        for entry in self.chance.sample(self.entries(), len(self.rows)):
            made.receive([entry])
        return made

    def program(self, count):
        """Return the program whose only procedure does the standing flips as many times."""
        names = ("one",) + NAMES[:self.size - 1]
        steps = []
        for flip in self.standing():
            tested = tuple(names[cell] for cell in flip.tested())
            steps.append(("flip", tested, tuple(names[cell] for cell in flip.toggled())))
        return Program({"all": (names[1:], (("times", count, tuple(steps)),))})

    def cells(self):
        """Return the cells with which the procedure is called."""
        return list(range(1, self.size))


def wholes(*seed):
    """Return small wholes, of up to six cells."""
    return [Whole(*seed, size=size, many=many) for size in (1, 2, 3, 4, 6) for many in (0, 1, 2, 5, 12)]


def wide(*seed):
    """Return a whole of forty cells."""
    return Whole(*seed, size=40, many=50)


def switched(whole, chosen):
    """Return the standing flips when the rows with these indexes are switched."""
    rows = [(stamp, flip, stands != (at in chosen)) for at, (stamp, flip, stands) in enumerate(whole.rows)]
    return whole.standing(rows)


def gaps(size, flips):
    """Return the rows of the table of the flips, each with its own cell added."""
    table = table_of(size, flips)
    return [set(table.row(cell)) ^ {cell} for cell in range(size)]


class OneFlip(unittest.TestCase):

    def test_one_entry_for_every_start_board(self):
        for whole in wholes("one flip"):
            history = whole.history()
            for at, stamp in enumerate(whole.stamps()):
                today = flip_today(history, stamp)
                for bits in all_bits(whole.size):
                    now, then = bits_after(bits, whole.standing()), bits_after(bits, switched(whole, [at]))
                    self.assertEqual(bits_after(now, [today]), then)

    def test_one_entry_of_forty_cells(self):
        whole = wide("one flip")
        history = whole.history()
        for stamp in whole.stamps()[::7]:
            now, today = history.board(), flip_today(history, stamp)
            switch_entry(history, stamp)
            self.assertEqual(history.board(), apply_flip(now, today))
            switch_entry(history, stamp)

    def test_some_entries_with_the_fewest_flips(self):
        for whole in wholes("some entries"):
            history, many = whole.history(), len(whole.rows)
            for chosen in ([], list(range(many)), whole.chance.sample(range(many), many // 2)):
                flips = switching_flips(history, [whole.stamps()[at] for at in chosen])
                self.assertLessEqual(len(flips), len(chosen))
                for bits in all_bits(whole.size):
                    now = bits_after(bits, whole.standing())
                    self.assertEqual(bits_after(now, flips), bits_after(bits, switched(whole, chosen)))
                wanted = gaps(whole.size, whole.standing()[::-1] + switched(whole, chosen))
                self.assertEqual(len(flips), rank_of_rows(wanted))

    def test_the_difference_of_a_house_that_switched_an_entry(self):
        for whole in wholes("difference"):
            house, history = whole.house(), whole.history()
            for stamp, flip, stands in whole.rows:
                other = house.copied()
                (other.remove if stands else other.restore)(stamp[1], stamp)
                today, flips = flip_today(history, stamp), difference_of(other, house)
                self.assertEqual(len(flips), 0 if today.is_idle() else 1)
                self.assertTrue(are_alike(whole.size, flips, [today]))

    def test_what_matters(self):
        for whole in wholes("matters"):
            house, history = whole.house(), whole.history()
            now = bits_after(whole.bits, whole.standing())
            for cell in range(whole.size):
                expected = []
                for at, stamp in enumerate(whole.stamps()):
                    changed = bits_after(whole.bits, switched(whole, [at]))[cell] != now[cell]
                    self.assertIs(does_matter(history, stamp, cell=cell), changed)
                    expected += [stamp] if changed else []
                self.assertEqual(mattering_stamps(house, cell=cell), expected)
            acted = [stamp for stamp in whole.stamps() if has_acted(history, stamp)]
            self.assertEqual(acting_stamps(house), acted)


class ReadThePast(unittest.TestCase):

    def past(self, whole, time):
        """Return the standing flips up to the time."""
        return whole.standing([row for row in whole.rows if row[0][0] <= time])

    def test_each_parity_at_each_time(self):
        for whole in wholes("past") + [wide("past")]:
            history = whole.history()
            for time in range(0, len(whole.rows) + 2, 1 if whole.size < 40 else 9):
                states = bits_after(whole.bits, self.past(whole, time))
                self.assertEqual(bits_of(board_at(history, time=time)), states)
                for cells in ([], list(range(whole.size)), some_cells(whole.chance, whole.size)):
                    today = cells_today(history, cells, time=time)
                    self.assertEqual(history.board().parity(today), parity_of(states, cells))
                    self.assertEqual(parity_at(history, cells, time=time), parity_of(states, cells))

    def test_the_same_cells_for_every_start_board(self):
        for whole in wholes("every start"):
            for time in (0, 2, 5):
                cells = some_cells(whole.chance, whole.size)
                today = cells_today(whole.history(), cells, time=time)
                for bits in all_bits(whole.size):
                    then, now = bits_after(bits, self.past(whole, time)), bits_after(bits, whole.standing())
                    self.assertEqual(parity_of(now, today), parity_of(then, cells))

    def test_a_fold_leaves_the_board_of_its_time(self):
        for whole in wholes("folded past"):
            house, history = whole.house(), whole.history()
            for hand in HANDS:
                house.hear(hand, time=100)
            for time in (1, 4, 9):
                house.fold(time=time)
                self.assertEqual(house.base(), board_at(history, time=time))
                self.assertEqual(house.board(), history.board())

    def test_the_flips_of_one_pass(self):
        for whole in wholes("one pass"):
            flips, board = whole.standing(), board_of(whole.bits)
            for done in range(len(flips) + 1):
                found = board_midway(flips, board, passes=0, done=done)
                self.assertEqual(bits_of(found), bits_after(whole.bits, flips[:done]))


class AsFewAsTheChanges(unittest.TestCase):

    def test_as_many_flips_as_the_depth(self):
        for whole in wholes("depth") + [wide("depth")]:
            table = table_of(whole.size, whole.standing())
            flips = shortest_flips(table)
            self.assertEqual(table_of(whole.size, flips), table)
            self.assertEqual([len(flips), depth_of(table)], [rank_of_rows(gaps(whole.size, whole.standing()))] * 2)
            witness = witness_of(table)
            self.assertEqual(len(witness), len(flips))
            self.assertTrue(are_independent([changes_of(table, board) for board in witness]))

    def test_no_shorter_one(self):
        for size in (1, 2, 3, 4):
            least = least_flips(size)
            for many in (0, 1, 2, 3, 5, 9):
                whole = Whole("no shorter", size=size, many=many)
                table = table_of(size, whole.standing())
                rows = tuple(frozenset(table.row(cell)) for cell in range(size))
                self.assertEqual(len(shortest_flips(table)), least[rows])

    def test_one_that_ends_at_each_changed_board(self):
        for whole in wholes("ends at"):
            table = table_of(whole.size, whole.standing())
            for bits in all_bits(whole.size):
                after = bits_after(bits, whole.standing())
                if after != bits:
                    flips = shortest_ending_at(table, board_of(bits))
                    self.assertEqual(len(flips), depth_of(table))
                    self.assertEqual(table_of(whole.size, flips), table)
                    self.assertEqual([bits_after(bits, flips[:-1]), bits_after(bits, flips)], [bits, after])

    def test_houses_and_desks(self):
        for whole in wholes("houses and desks"):
            house, table = whole.house(), table_of(whole.size, whole.standing())
            self.assertEqual(deeds_table(house), table)
            for hand in HANDS:
                house.hear(hand, time=100)
            house.fold(time=100)
            self.assertEqual(len(house.folded()), depth_of(table))
            empty = House(["eve"], house.start())
            self.assertEqual(len(difference_of(house, empty)), depth_of(table))
            desk = Desk()
            desk.say(f"new h {board_of(whole.bits)}")
            for (time, hand, number), flip, stands in whole.rows:
                desk.say(f"enter h {time} {hand} {number} {flip}")
                if not stands:
                    desk.say(f"remove h {time} {hand} {number}")
            self.assertEqual(desk.say("depth h"), str(depth_of(table)))
            self.assertEqual(desk.say("board h"), str(house.board()))


class AnyNumberOfPasses(unittest.TestCase):

    def test_at_most_one_flip_less_than_the_cells(self):
        for whole in wholes("passes") + [wide("passes")]:
            table = table_of(whole.size, whole.standing())
            for count in (HUGE, -HUGE, HUGE - 1, 3):
                power = power_of(table, count)
                flips = shortest_flips(power)
                self.assertLessEqual(len(flips), whole.size - 1)
                self.assertEqual(table_of(whole.size, flips), power)
                board = board_of(whole.bits)
                self.assertEqual(apply_flips(board, flips), board_after(table, board, passes=count))

    def test_programs_and_powers(self):
        for whole in wholes("programs"):
            table, cells, board = table_of(whole.size, whole.standing()), whole.cells(), board_of(whole.bits)
            for count in (0, 1, 2, 7, HUGE - 1, HUGE):
                program = whole.program(count)
                self.assertEqual(call_table(program, "all", cells, size=whole.size), power_of(table, count))
                expected = board_after(table, board, passes=count)
                self.assertEqual(run_call(program, "all", cells, board=board), expected)
                self.assertEqual(board_midway(whole.standing(), board, passes=count, done=0), expected)
            self.assertEqual(call_flips(whole.program(2), "all", cells), whole.standing() * 2)

    def test_every_board_by_its_round(self):
        for whole in wholes("rounds"):
            table = table_of(whole.size, whole.standing())
            for bits in all_bits(whole.size):
                passed = [bits]
                while (after := bits_after(passed[-1], whole.standing())) != bits:
                    passed.append(after)
                found = board_after(table, board_of(bits), passes=HUGE)
                self.assertEqual(bits_of(found), passed[HUGE % len(passed)])


class KnownOrInDoubt(unittest.TestCase):

    def watched(self, whole, looks):
        """Return a watcher with as many looks."""
        watcher = Watcher(whole.history())
        for index in range(looks):
            watcher.look(some_cells(whole.chance, whole.size), time=whole.chance.randrange(14))
        return watcher

    def parity(self, whole, bits, cells, time):
        flips = whole.standing([row for row in whole.rows if row[0][0] <= time])
        return parity_of(bits_after(bits, flips), cells)

    def test_a_reason_or_a_doubt(self):
        seen = {True: 0, False: 0}
        for whole, looks in itertools.product(wholes("watched") + [wide("watched")], (0, 1, 3, 6)):
            watcher = self.watched(whole, looks)
            for cells, time in [(some_cells(whole.chance, whole.size), time) for time in range(14)]:
                known = watcher.knows(cells, time=time)
                seen[known] += 1
                if known:
                    self.follows(whole, watcher, cells, time)
                else:
                    self.differs(whole, watcher, cells, time)
        self.assertGreater(min(seen.values()), 200)

    def follows(self, whole, watcher, cells, time):
        """Expect a reason that gives the parity, and no doubt."""
        indexes, constant = watcher.reason(cells, time=time)
        told = sum(watcher.looks()[index][2] for index in indexes) + constant
        self.assertEqual(told % 2, self.parity(whole, whole.bits, cells, time))
        with self.assertRaises(Known):
            watcher.doubt(cells, time=time)

    def differs(self, whole, watcher, cells, time):
        """Expect two start boards that agree on all looks and differ here, and no reason."""
        one, other = [bits_of(board) for board in watcher.doubt(cells, time=time)]
        self.assertEqual(one, whole.bits)
        for past, seen, result in watcher.looks():
            self.assertEqual([self.parity(whole, bits, seen, past) for bits in (one, other)], [result] * 2)
        parities = {self.parity(whole, bits, cells, time) for bits in (one, other)}
        self.assertEqual(parities, {0, 1})
        with self.assertRaises(Unknown):
            watcher.reason(cells, time=time)

    def test_looks_read_the_past(self):
        for whole in wholes("looks"):
            watcher, history = self.watched(whole, 8), whole.history()
            for time, cells, result in watcher.looks():
                self.assertEqual(parity_at(history, cells, time=time), result)


class SameEntriesSameBoard(unittest.TestCase):

    def test_in_whatever_order_and_in_however_many_steps(self):
        for whole in wholes("same") + [wide("same")]:
            early = [entry for entry in whole.entries() if entry[0][0] <= 6]
            late = [entry for entry in whole.entries() if entry[0][0] > 6]
            houses = []
            for times in ((6,), (0, 6), (1, 3, 5, 6)):
                house = House(HANDS, board_of(whole.bits))
                for entry in whole.chance.sample(early, len(early)):
                    house.receive([entry])
                for hand in HANDS:
                    house.hear(hand, time=6)
                for time in times:
                    house.fold(time=time)
                house.receive(whole.chance.sample(late, len(late)))
                houses.append(house)
            history = whole.history()
            for house in houses:
                self.assertTrue(house == houses[0])
                self.assertEqual([house.board(), house.base()], [history.board(), board_at(history, time=6)])
                self.assertEqual(difference_of(house, houses[0]), [])
                self.assertEqual(difference_of(house, whole.house()), [])

    def test_histories_and_their_texts(self):
        for whole in wholes("texts"):
            one, other = whole.history(), whole.history()
            self.assertTrue(one == other)
            self.assertEqual(history_text(one), history_text(other))
            self.assertTrue(read_history(history_text(one)) == other)
            self.assertEqual(one.board(), whole.house().board())


class WhenOrderMatters(unittest.TestCase):

    def exchanged(self, whole, at, one, other):
        """Return whether every board stays as it is when neighbouring entries at this place exchange their flips."""
        rows = list(whole.rows)
        pair = [(stamp, flip, True) for (stamp, old, stands), flip in zip(rows[at:at + 2], (one, other))]
        back = [(stamp, flip, True) for (stamp, old, stands), flip in zip(rows[at:at + 2], (other, one))]
        there, instead = rows[:at] + pair + rows[at + 2:], rows[:at] + back + rows[at + 2:]
        for bits in all_bits(whole.size):
            found = []
            for each in (there, instead):
                history = History(board_of(bits))
                for stamp, flip, stands in each:
                    history.enter(stamp, flip)
                    if not stands:
                        history.remove(stamp)
                found.append(history.board())
            if found[0] != found[1]:
                return False
        return True

    def test_neighbours_that_are_not_idle(self):
        answers = []
        for size, many in ((2, 3), (3, 4), (4, 6)):
            whole = Whole("neighbours", size=size, many=many)
            flips = [flip for flip in all_flips(size) if not flip.is_idle()]
            pairs = list(itertools.product(flips, repeat=2))
            for one, other in pairs if len(pairs) < 700 else whole.chance.sample(pairs, 300):
                expected = do_commute(one, other)
                self.assertIs(self.exchanged(whole, many // 2, one, other), expected)
                self.assertIs(are_alike(size, [one, other], [other, one]), expected)
                answers.append(expected)
        self.assertGreater(min(answers.count(True), answers.count(False)), 100)

    def test_forty_cells(self):
        chance = chance_for("order of forty")
        answers = []
        for index in range(60):
            one, other = some_flip(chance, 40), some_flip(chance, 40)
            expected = do_commute(one, other)
            self.assertIs(are_alike(40, [one, other], [other, one]), expected)
            answers.append(expected)
        self.assertGreater(min(answers.count(True), answers.count(False)), 5)

    def test_idle_flips_can_always_be_exchanged(self):
        for idle in (Flip([1], []), Flip([], [1, 2]), Flip([], [])):
            for flip in all_flips(3):
                self.assertTrue(are_alike(3, [idle, flip], [flip, idle]))


if __name__ == "__main__":
    unittest.main()
