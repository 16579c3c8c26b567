"""Chapter "The keeper": points 16.1 to 16.6."""

import copy
import itertools
import random
import unittest

from formkeeper.disk import Disk
from formkeeper.errors import Damaged, PowerLost
from formkeeper.journal import Journal
from formkeeper.keeper import Keeper
from formkeeper.registry import Registry
from formkeeper.states import write_change, write_state
from tests.disks import (
    WatchedDisk, all_choices, disk_with, files_of, log_octets, lost_with, snapshot_octets, tried, wide
)
from tests.some_commands import CommandMaker, many_questions
from tests.support import ProgramTest, strictly

QUESTIONS = many_questions(['"int"', '["F"]'])
INT, LONG, STRING = [("register", "log", text, ()) for text in ('"int"', '"long"', '"string"')]
OLD = ("refused", "old")


def registry_behind(changes):
    """Returns a registry that was asked these changes."""
    registry = Registry()
    for change in changes:
        registry.change(*change)
    return registry


def record(*change):
    return write_change(*change)


class KeeperTest(ProgramTest):

    def assert_alike(self, keeper, registry, clients=("ann", "ben")):
        """The keeper answers and remembers the same as a registry."""
        for question in QUESTIONS:
            self.assertEqual(strictly(registry.ask(question)), strictly(keeper.ask(question)))
        for client in clients:
            self.assertEqual(strictly(registry.remembered(client)), strictly(keeper.registry().remembered(client)))
        self.assertEqual(write_state(registry), write_state(keeper.registry()))

    def opened(self, limit=100):
        """Returns a disk that writes down its operations, and a keeper on it."""
        disk = WatchedDisk()
        keeper = Keeper(disk, limit=limit)
        disk.done = []
        return disk, keeper


class ChangesTest(KeeperTest):
    """Points 16.1, 16.3 and 16.5."""

    def test_example_of_the_document(self):
        d = Disk()
        k = Keeper(d, limit=2)
        self.assertEqual(("done", 1, 1), k.change("ann", 1, ("register", "log", '"long"', ())))
        d.lose([])
        self.assertEqual(("done", "log", 1, 1, '"long"', ()), Keeper(d).ask(("version", "log", "latest")))

    def test_a_new_keeper(self):
        disk = WatchedDisk()
        keeper = Keeper(disk)
        self.assertEqual([("append", "log.0", []), ("sync", "log.0"), ("sync names",)], disk.done)
        self.assertIs(Registry, keeper.registry().__class__)
        self.assert_alike(keeper, Registry())

    def test_each_change_is_appended_and_synced(self):
        disk, keeper = self.opened()
        self.assert_gives(("done", 1, 1), keeper.change, "ann", 1, INT)
        first = record("ann", 1, INT)
        self.assertEqual([ord(each) for each in '["ann",1,["register","log","\\"int\\"",[]]]'], first)
        self.assertEqual([("append", "log.0", log_octets(1, first)), ("sync", "log.0")], disk.done)
        disk.done = []
        self.assert_gives(("done", 2, 2), keeper.change, "ben", 7, LONG)
        second = record("ben", 7, LONG)
        self.assertEqual([("append", "log.0", log_octets(2, second)), ("sync", "log.0")], disk.done)
        self.assertEqual({"log.0": log_octets(1, first, second)}, files_of(disk))
        self.assert_alike(keeper, registry_behind([("ann", 1, INT), ("ben", 7, LONG)]))

    def test_refusals_are_kept_as_well(self):
        disk, keeper = self.opened()
        self.assert_gives(("refused", "bad mode"), keeper.change, "ann", 3, ("set mode", None, "x"))
        self.assertEqual(log_octets(1, record("ann", 3, ("set mode", None, "x"))), disk.read("log.0"))
        self.assertEqual(("refused", "bad mode"), Keeper(disk).change("ann", 3, INT))

    def test_remembered_and_old_changes_use_no_operation(self):
        disk, keeper = self.opened(limit=2)
        keeper.change("ann", 5, INT)
        disk.allow(0)
        disk.done = []
        self.assert_gives(("done", 1, 1), keeper.change, "ann", 5, ("set mode", None, "none"))
        self.assert_gives(OLD, keeper.change, "ann", 4, LONG)
        self.assert_gives([OLD, ("done", 1, 1), OLD], keeper.change_all,
                          [("ann", 1, LONG), ("ann", 5, INT), ("ann", 4, INT)])
        self.assertEqual([], disk.done)
        self.assert_alike(keeper, registry_behind([("ann", 5, INT)]))

    def test_an_empty_list(self):
        disk, keeper = self.opened(limit=1)
        disk.allow(0)
        self.assert_gives([], keeper.change_all, [])
        self.assertEqual([], disk.done)

    def test_several_changes_together(self):
        disk, keeper = self.opened()
        changes = [("ann", 1, INT), ("ben", 1, LONG), ("ann", 2, STRING)]
        self.assert_gives([("done", 1, 1), ("done", 2, 2), ("refused", "not fitting", 2, "back", (0,))],
                          keeper.change_all, changes)
        octets = [log_octets(number, record(*change)) for number, change in enumerate(changes, 1)]
        self.assertEqual([("append", "log.0", each) for each in octets] + [("sync", "log.0")], disk.done)
        self.assert_alike(keeper, registry_behind(changes))

    def test_repeated_old_and_new_changes_in_one_list(self):
        disk, keeper = self.opened()
        keeper.change("ben", 3, ("set mode", "log", "none"))
        disk.done = []
        changes = [
            ("ann", 2, INT), ("ann", 2, LONG), ("ann", 1, LONG), ("ben", 3, LONG), ("ann", 5, LONG), ("ann", 2, INT),
            ("ann", 5, STRING), ("ben", 4, STRING), ("ben", 3, INT), ("ann", 4, INT), ("cat", 1, INT),
        ]
        self.assert_gives([
            ("done", 1, 1), ("done", 1, 1), OLD, ("done", "none"), ("done", 2, 2), OLD, ("done", 2, 2), ("done", 3, 3),
            OLD, OLD, ("done", 1, 1),
        ], keeper.change_all, changes)
        new = [changes[0], changes[4], changes[7], changes[10]]
        octets = [log_octets(number, record(*change)) for number, change in enumerate(new, 2)]
        self.assertEqual([("append", "log.0", each) for each in octets] + [("sync", "log.0")], disk.done)

    def test_a_remembered_answer_ahead_of_a_new_change(self):
        _, keeper = self.opened()
        keeper.change("ann", 1, INT)
        self.assert_gives([("done", 1, 1), ("done", 2, 2), ("done", 2, 2), OLD], keeper.change_all,
                          [("ann", 1, LONG), ("ann", 2, LONG), ("ann", 2, INT), ("ann", 1, INT)])

    def test_no_change_is_carried_out_before_it_is_kept(self):
        """If its record cannot be kept, the registry is as before."""
        for allowed in range(4):
            disk, keeper = self.opened()
            disk.allow(allowed)
            self.assert_raises_at(PowerLost, 0, keeper.change_all,
                                  [("ann", 1, INT), ("ben", 1, LONG), ("ann", 2, STRING)])
            self.assertEqual(write_state(Registry()), write_state(keeper.registry()))

    def test_commands_that_ask(self):
        disk, keeper = self.opened()
        keeper.change_all([("ann", 1, INT), ("ann", 2, LONG)])
        disk.allow(0)
        registry = registry_behind([("ann", 1, INT), ("ann", 2, LONG)])
        for question in many_questions():
            self.assertEqual(strictly(registry.ask(question)), strictly(self.called(keeper.ask, question)))
        self.assertIsNone(keeper.registry().remembered("ben"))

    def test_lists_may_be_changed_by_the_caller(self):
        _, keeper = self.opened()
        changes = [("ann", 1, INT)]
        answers = keeper.change_all(changes)
        changes.clear()
        answers.clear()
        self.assertEqual([("done", 1, 1)], keeper.change_all([("ann", 1, INT)]))
        self.assert_alike(keeper, registry_behind([("ann", 1, INT)]))


class CompactingTest(KeeperTest):
    """Points 16.1, 16.2 and 16.4."""

    CHANGES = [("ann", 1, INT), ("ben", 1, LONG), ("ann", 2, ("set mode", None, "none")), ("ben", 9, STRING),
               ("ann", 3, ("remove version", "log", 2, False)), ("ann", 4, ("set mode", "x", "none")), ("ben", 10, LONG)]

    def files_behind(self, changes, limit):
        """Returns the files that a keeper with a limit has behind these changes, one after the other."""
        many = len(changes) // limit * limit
        log = log_octets(many + 1, *[record(*change) for change in changes[many:]])
        if many == 0:
            return {"log.0": log}
        state = write_state(registry_behind(changes[:many]))
        return {f"log.{many // limit}": log, f"snap.{many // limit}": snapshot_octets(many, state)}

    def test_the_files_behind_each_change(self):
        for limit in (1, 2, 3, 5, 7, 8):
            disk, keeper = self.opened(limit)
            for count, change in enumerate(self.CHANGES, 1):
                keeper.change(*change)
                self.assertEqual(self.files_behind(self.CHANGES[:count], limit), files_of(disk))
                disk.lose([])
                self.assertEqual(self.files_behind(self.CHANGES[:count], limit), files_of(disk))

    def test_the_limit_is_100_if_it_is_not_told(self):
        disk = Disk()
        keeper = Keeper(disk)
        changes = [("ann", number, ("set mode", None, "none")) for number in range(1, 101)]
        for change in changes[:99]:
            keeper.change(*change)
        self.assertEqual(["log.0"], disk.names())
        keeper.change(*changes[99])
        self.assertEqual({"log.1": [], "snap.1": snapshot_octets(100, write_state(registry_behind(changes)))},
                         files_of(disk))

    def test_the_operations_of_a_call_that_reaches_the_limit(self):
        disk, keeper = self.opened(limit=2)
        keeper.change(*self.CHANGES[0])
        disk.done = []
        keeper.change(*self.CHANGES[1])
        octets = log_octets(2, record(*self.CHANGES[1]))
        self.assertEqual([("append", "log.0", octets), ("sync", "log.0"), ("sync", "log.0")], disk.done[:3])
        state = write_state(registry_behind(self.CHANGES[:2]))
        self.assertEqual(("append", "tidy", snapshot_octets(2, state)), disk.done[3])

    def test_a_list_that_passes_the_limit_by_several_records(self):
        for many_before in range(3):
            disk, keeper = self.opened(limit=3)
            for change in self.CHANGES[:many_before]:
                keeper.change(*change)
            disk.done = []
            keeper.change_all(self.CHANGES[many_before:])
            state = write_state(registry_behind(self.CHANGES))
            self.assertEqual({"log.1": [], "snap.1": snapshot_octets(7, state)}, files_of(disk))
            appended = [each for each in disk.done if each[:2] == ("append", "log.0")]
            self.assertEqual(7 - many_before, len(appended))
            self.assertEqual(("sync", "log.0"), disk.done[7 - many_before])
            self.assertEqual(1, len([each for each in disk.done if each[:2] == ("append", "tidy")]))
            keeper.change("ann", 5, LONG)
            self.assertEqual(log_octets(8, record("ann", 5, LONG)), disk.read("log.1"))

    def test_a_keeper_that_is_opened_with_a_smaller_limit(self):
        """Nothing is compacted before a call appends a record."""
        disk = Disk()
        keeper = Keeper(disk, limit=100)
        keeper.change_all(self.CHANGES[:4])
        again = Keeper(disk, limit=2)
        self.assertEqual(["log.0"], disk.names())
        again.change(*self.CHANGES[3])
        again.change("ann", 1, INT)
        again.change_all([])
        again.ask(("subjects",))
        self.assertEqual(["log.0"], disk.names())
        again.change(*self.CHANGES[4])
        state = write_state(registry_behind(self.CHANGES[:5]))
        self.assertEqual({"log.1": [], "snap.1": snapshot_octets(5, state)}, files_of(disk))

    def test_a_keeper_that_is_opened_again_answers_the_same(self):
        for limit, count in itertools.product((1, 2, 3, 10), range(8)):
            disk, keeper = self.opened(limit)
            for change in self.CHANGES[:count]:
                keeper.change(*change)
            registry = registry_behind(self.CHANGES[:count])
            self.assert_alike(Keeper(disk, limit=limit), registry)
            disk.lose([])
            again = Keeper(disk, limit=limit)
            self.assert_alike(again, registry)
            for change in self.CHANGES[:count]:
                self.assertEqual(registry.change(*change), again.change(*change))
            for change in self.CHANGES[count:]:
                self.assertEqual(registry.change(*change), again.change(*change))
            self.assert_alike(again, registry)

    def test_the_operations_of_opening_are_those_of_the_journal(self):
        disk, keeper = self.opened(limit=2)
        keeper.change_all(self.CHANGES[:2])
        keeper.change(*self.CHANGES[2])
        one, two = copy.deepcopy(disk), copy.deepcopy(disk)
        one.done, two.done = [], []
        Keeper(one)
        Journal(two)
        self.assertEqual(two.done, one.done)

    def test_journals_that_a_keeper_has_not_written(self):
        state = write_state(registry_behind(self.CHANGES[:3]))
        rest = log_octets(8, *[record(*change) for change in self.CHANGES[3:]])
        disk = disk_with({"snap.4": snapshot_octets(7, state), "log.4": rest + [1, 2]})
        self.assert_alike(Keeper(disk), registry_behind(self.CHANGES))
        disk = disk_with({"snap.1": snapshot_octets(0, []), "log.1": log_octets(1, record(*self.CHANGES[0]))})
        self.assert_alike(Keeper(disk), registry_behind(self.CHANGES[:1]))
        self.assert_alike(Keeper(disk_with({"snap.1": snapshot_octets(0, state)})), registry_behind(self.CHANGES[:3]))

    def test_damaged_snapshots(self):
        state = write_state(registry_behind(self.CHANGES[:3]))
        for octets in ([], [0] * 11, snapshot_octets(3, state)[:-1], snapshot_octets(3, state) + [1], wide(3, 8) + state):
            self.assert_raises_at(Damaged, 0, lambda: Keeper(disk_with({"snap.1": octets})))

    def test_registries_by_chance(self):
        chosen = random.Random(160)
        for turn in range(25):
            disk = Disk()
            limit = chosen.choice([1, 2, 5, 100])
            keeper = Keeper(disk, limit=limit)
            maker = CommandMaker(chosen, Registry())
            for _ in range(12):
                changes = [maker.change() for _ in range(chosen.choice([0, 1, 1, 2, 5]))]
                expected = [maker.registry.change(*change) for change in changes]
                self.assert_gives(expected, keeper.change_all, changes)
                if chosen.randrange(3) == 0:
                    disk.lose([chosen.randrange(100) for _ in range(4)])
                    keeper = Keeper(disk, limit=limit)
            self.assert_alike(keeper, maker.registry, maker.requests)


class PowerTest(KeeperTest):
    """Point 16.6."""

    CALLS = [
        [("ann", 1, ("register", "b", '"int"', ()))],
        [("ben", 1, ("set mode", "b", "none")), ("ann", 2, ("remove subject", "b", True)), ("ben", 1, INT),
         ("ann", 3, ("register", "b", '"null"', ()))],
        [("ann", 3, INT)],
        [("ben", 2, ("remove version", "b", 1, False))],
    ]

    def begin(self, disk, limit):
        """Makes the calls until the power is lost. Returns the changes that were begun, how many of them were
        answered, and whether all were."""
        begun, answered = [], 0
        try:
            keeper = Keeper(disk, limit=limit)
            for changes in self.CALLS:
                begun += changes
                keeper.change_all(changes)
                answered = len(begun)
        except PowerLost:
            return begun, answered, False
        return begun, answered, True

    def setUp(self):
        self.known = {}
        self.all = [change for changes in self.CALLS for change in changes]

    def states_behind(self, begun, answered):
        """Returns the states to which the first ones of the changes may lead."""
        for count in range(len(begun) + 1):
            if count not in self.known:
                self.known[count] = write_state(registry_behind(begun[:count]))
        return [self.known[count] for count in range(answered, len(begun) + 1)]

    def assert_right(self, disk, begun, answered, context, is_asked_again):
        """Opening a keeper gives a right registry. Asked again, each change is made once."""
        keeper = Keeper(disk, limit=3)
        self.assertIn(write_state(keeper.registry()), self.states_behind(begun, answered), context)
        if not is_asked_again:
            return
        registry = Registry()
        for change in self.all:
            expected = registry.change(*change)
            remembered = keeper.registry().remembered(change[0])
            answer = keeper.change(*change)
            if remembered is None or remembered[0] <= change[1]:
                self.assertEqual(expected, answer, context)
        self.assertEqual(write_state(registry), write_state(keeper.registry()), context)

    def test_losing_the_power_behind_every_operation(self):
        count = 0
        for limit in (1, 2, 3, 100):
            for allowed in itertools.count():
                disk = Disk()
                disk.allow(allowed)
                begun, answered, is_done = self.begin(disk, limit)
                for at, choices in enumerate(all_choices(disk)):
                    lost = lost_with(disk, choices)
                    self.assert_right(lost, begun, answered, (limit, allowed, choices), at % 7 == 0)
                    count += 1
                if is_done:
                    break
        self.assertGreater(count, 2000)

    def test_losing_the_power_while_it_is_opened(self):
        chosen = random.Random(161)
        count = 0
        for limit in (1, 2, 100):
            for allowed in itertools.count():
                disk = Disk()
                disk.allow(allowed)
                begun, answered, is_done = self.begin(disk, limit)
                first = list(all_choices(disk))
                for choices in chosen.sample(first, min(len(first), 3)):
                    for again in itertools.count():
                        lost = lost_with(disk, choices)
                        lost.allow(again)
                        is_open = tried(Keeper, lost)
                        second = list(all_choices(lost))
                        for more in second if len(second) < 60 else chosen.sample(second, 20):
                            count += 1
                            self.assert_right(lost_with(lost, more), begun, answered, (allowed, choices, again, more),
                                              count % 20 == 0)
                        if is_open:
                            break
                if is_done:
                    break
        self.assertGreater(count, 1000)

    def test_a_client_that_asks_again_gets_the_answer_that_it_would_have_got(self):
        """One client asks one change after the other, each again until it is answered."""
        chosen = random.Random(162)
        for _ in range(150):
            disk = Disk()
            maker = CommandMaker(chosen, Registry())
            limit = chosen.choice([1, 2, 4])
            keeper = Keeper(disk, limit=limit)
            for number in range(1, 12):
                command = maker.changing()
                expected = maker.registry.change("ann", number, command)
                answer = None
                while answer is None:
                    disk.allow(chosen.choice([None, 0, 1, 2, 3, 5, 9, 13]))
                    try:
                        answer = keeper.change("ann", number, command)
                    except PowerLost:
                        keeper = None
                    while keeper is None:
                        disk.lose([chosen.randrange(1000) for _ in range(chosen.randrange(5))])
                        disk.allow(chosen.choice([None, 0, 1, 2, 3, 5]))
                        if tried(Keeper, disk):
                            disk.lose([chosen.randrange(1000) for _ in range(chosen.randrange(5))])
                            keeper = Keeper(disk, limit=limit)
                self.assertEqual(strictly(expected), strictly(answer))
            self.assert_alike(keeper, maker.registry)

    def test_what_is_raised(self):
        """PowerLost comes from the disk: while the keeper is opened, and from each method that changes."""
        for allowed in range(3):
            disk = Disk()
            disk.allow(allowed)
            self.assert_raises_at(PowerLost, 0, lambda: Keeper(disk))
        for allowed in range(12):
            disk = Disk()
            keeper = Keeper(disk, limit=1)
            disk.allow(allowed)
            if allowed < 11:
                self.assert_raises_at(PowerLost, 0, keeper.change, "ann", 1, INT)
            else:
                self.assertEqual(("done", 1, 1), keeper.change("ann", 1, INT))


if __name__ == "__main__":
    unittest.main()
