"""Chapter "Journals": points 13.1 to 13.10."""

import copy
import itertools
import random
import unittest

from formkeeper.disk import Disk
from formkeeper.errors import Damaged, PowerLost
from formkeeper.journal import Journal
from formkeeper.sums import sum_of
from tests.disks import WatchedDisk, all_choices, disk_with, files_of, log_octets, snapshot_octets, tried, wide
from tests.support import ProgramTest


class JournalTest(ProgramTest):

    def assert_holds(self, journal, snapshot, base, records, torn=0):
        self.assert_gives(snapshot, journal.snapshot)
        self.assert_gives(base, journal.base)
        self.assert_gives(records, journal.records)
        self.assert_gives(base + len(records), journal.last)
        self.assert_gives(torn, journal.torn)

    def assert_opens(self, files, snapshot, base, records, torn, operations, left):
        """A journal on a disk with these files holds this, and the disk does these operations and has these files then.
        Opening it a second time finds nothing torn."""
        disk = disk_with(files, WatchedDisk)
        journal = Journal(disk)
        self.assert_holds(journal, snapshot, base, records, torn)
        self.assertEqual(operations, disk.done)
        self.assertEqual(left, files_of(disk))
        again = Journal(disk)
        self.assert_holds(again, snapshot, base, records)
        self.assertEqual(left, files_of(disk))
        disk.lose([])
        self.assertEqual(left, files_of(disk))
        self.assert_holds(Journal(disk), snapshot, base, records)


class UsingTest(JournalTest):
    """Points 13.1 to 13.4, 13.7 and 13.8."""

    def test_examples_of_the_document(self):
        d = Disk()
        j = Journal(d)
        self.assertEqual((1, 2), (j.append([7, 7]), j.append([8])))
        self.assertIsNone(j.compact([5]))
        self.assertEqual(3, j.append([9]))
        self.assertIsNone(j.sync())
        d.lose([])
        k = Journal(d)
        self.assertEqual(([5], 2, [[9]], 3), (k.snapshot(), k.base(), k.records(), k.last()))

    def test_a_new_journal(self):
        self.assert_opens({}, [], 0, [], 0, [("append", "log.0", []), ("sync", "log.0"), ("sync names",)], {"log.0": []})

    def test_appending(self):
        disk = WatchedDisk()
        journal = Journal(disk)
        disk.done = []
        records = [[7, 7], [], [0], [255] * 300, []]
        for number, record in enumerate(records, 1):
            self.assert_gives(number, journal.append, record)
            self.assert_holds(journal, [], 0, records[:number])
            self.assertEqual(("append", "log.0", log_octets(number, record)), disk.done[-1])
        self.assertEqual(5, len(disk.done))
        self.assertEqual(log_octets(1, *records), disk.read("log.0"))
        self.assertEqual([0, 0, 0, 2] + wide(sum_of([0] * 7 + [1, 7, 7]), 4) + [7, 7], disk.read("log.0")[:10])
        self.assertEqual([0, 0, 0, 0] + wide(sum_of([0] * 7 + [2]), 4), disk.read("log.0")[10:18])

    def test_syncing(self):
        disk = WatchedDisk()
        journal = Journal(disk)
        journal.append([1])
        disk.done = []
        self.assertIsNone(journal.sync())
        self.assertEqual([("sync", "log.0")], disk.done)
        journal.append([2])
        disk.lose([])
        self.assertEqual([[1]], Journal(disk).records())

    def test_compacting(self):
        disk = WatchedDisk()
        journal = Journal(disk)
        journal.append([1])
        journal.append([])
        disk.done = []
        self.assertIsNone(self.called(journal.compact, [5, 6]))
        self.assertEqual([
            ("sync", "log.0"), ("append", "tidy", snapshot_octets(2, [5, 6])), ("sync", "tidy"), ("append", "log.1", []),
            ("sync names",), ("rename", "tidy", "snap.1"), ("sync names",), ("remove", "log.0"), ("sync names",),
        ], disk.done)
        self.assert_holds(journal, [5, 6], 2, [])
        self.assertEqual({"log.1": [], "snap.1": snapshot_octets(2, [5, 6])}, files_of(disk))
        self.assertEqual([0] * 7 + [2, 5, 6] + wide(sum_of([0] * 7 + [2, 5, 6]), 4), disk.read("snap.1"))
        self.assert_gives(3, journal.append, [9])
        self.assertEqual(log_octets(3, [9]), disk.read("log.1"))
        self.assert_holds(journal, [5, 6], 2, [[9]])
        disk.done = []
        journal.compact([])
        self.assertEqual([
            ("sync", "log.1"), ("append", "tidy", snapshot_octets(3, [])), ("sync", "tidy"), ("append", "log.2", []),
            ("sync names",), ("rename", "tidy", "snap.2"), ("sync names",), ("remove", "log.1"), ("remove", "snap.1"),
            ("sync names",),
        ], disk.done)
        self.assert_holds(journal, [], 3, [])
        self.assertEqual({"log.2": [], "snap.2": snapshot_octets(3, [])}, files_of(disk))

    def test_compacting_where_a_file_tidy_is(self):
        disk = WatchedDisk()
        journal = Journal(disk)
        disk.append("tidy", [1, 2])
        disk.done = []
        journal.compact([5])
        self.assertEqual([("sync", "log.0"), ("remove", "tidy"), ("append", "tidy", snapshot_octets(0, [5])),
                          ("sync", "tidy"), ("append", "log.1", [])], disk.done[:5])
        self.assertEqual(snapshot_octets(0, [5]), disk.read("snap.1"))

    def test_compacting_nothing(self):
        disk = Disk()
        journal = Journal(disk)
        journal.compact([])
        self.assert_holds(journal, [], 0, [])
        self.assertEqual({"log.1": [], "snap.1": [0] * 8 + wide(sum_of([0] * 8), 4)}, files_of(disk))
        self.assert_gives(1, journal.append, [1])
        self.assert_holds(Journal(disk), [], 0, [[1]])

    def test_numbers_go_on_for_ever(self):
        disk = Disk()
        journal = Journal(disk)
        number = 0
        for generation in range(1, 13):
            for _ in range(generation % 3):
                number += 1
                self.assertEqual(number, journal.append([generation]))
            journal.compact([generation] * 2)
            self.assertEqual([f"log.{generation}", f"snap.{generation}"], disk.names())
            journal = Journal(disk)
            self.assert_holds(journal, [generation] * 2, number, [])

    def test_numbers_in_8_octets(self):
        for base in (255, 256, 2 ** 32 + 5, 2 ** 56):
            files = {"snap.1": snapshot_octets(base, [1]), "log.1": log_octets(base + 1, [2], [3])}
            disk = disk_with(files)
            journal = Journal(disk)
            self.assert_holds(journal, [1], base, [[2], [3]])
            self.assertEqual(base + 3, journal.append([4]))
            journal.compact([])
            self.assertEqual(wide(base + 3, 8), disk.read("snap.2")[:8])

    def test_a_long_record(self):
        disk = Disk()
        journal = Journal(disk)
        record = [at % 251 for at in range(70000)]
        journal.append(record)
        journal.append([1])
        self.assertEqual([0, 1, 17, 112], disk.read("log.0")[:4])
        self.assert_holds(Journal(disk), [], 0, [record, [1]])

    def test_lists_may_be_changed_by_the_caller(self):
        disk = Disk()
        journal = Journal(disk)
        record, snapshot = [1, 2], [3, 4]
        journal.append([0])
        journal.compact(snapshot)
        journal.append(record)
        record.append(9)
        snapshot.append(9)
        journal.snapshot().append(9)
        journal.records().append([9])
        journal.records()[0].append(9)
        for each in (journal, Journal(disk)):
            each.snapshot().append(9)
            each.records()[0].append(9)
            self.assert_holds(each, [3, 4], 1, [[1, 2]])


class OpeningTest(JournalTest):
    """Points 13.5, 13.6 and 13.10."""

    def test_whole_logs(self):
        for records in ([], [[]], [[1]], [[], [2, 3], []]):
            octets = log_octets(1, *records)
            self.assert_opens({"log.0": octets}, [], 0, records, 0, [("sync", "log.0"), ("sync names",)],
                              {"log.0": octets})
            files = {"snap.7": snapshot_octets(4, [5]), "log.7": log_octets(5, *records)}
            self.assert_opens(files, [5], 4, records, 0, [("sync", "log.7"), ("sync names",)], files)

    def test_a_snapshot_without_a_log(self):
        files = {"snap.3": snapshot_octets(4, [5])}
        self.assert_opens(files, [5], 4, [], 0, [("append", "log.3", []), ("sync", "log.3"), ("sync names",)],
                          {**files, "log.3": []})

    def test_generations_of_two_figures(self):
        files = {"snap.9": snapshot_octets(1, [9]), "log.9": log_octets(2, [1]), "snap.10": snapshot_octets(2, [10]),
                 "log.10": log_octets(3, [2]), "log.11": [], "log.2": [1], "snap.2": [1, 2]}
        self.assert_opens(files, [10], 2, [[2]], 0, [
            ("remove", "log.11"), ("remove", "log.2"), ("remove", "log.9"), ("remove", "snap.2"), ("remove", "snap.9"),
            ("sync names",), ("sync", "log.10"), ("sync names",),
        ], {"snap.10": files["snap.10"], "log.10": files["log.10"]})
        self.assert_opens({"log.12": log_octets(1, [1]), "log.0": log_octets(1, [2])}, [], 0, [[2]], 0,
                          [("remove", "log.12"), ("sync names",), ("sync", "log.0"), ("sync names",)],
                          {"log.0": log_octets(1, [2])})

    def test_other_files_stay(self):
        others = {"a": [1], "logs": [2], "log": [3], "snap": [], "tid": [4], "a.log.1": [5], "x-tidy": [6], "snapshot": [7],
                  "z": [8], "0": [9]}
        files = {"log.0": log_octets(1, [1]), "log.1": [3], "tidy": [4]}
        self.assert_opens({**files, **others}, [], 0, [[1]], 0, [
            ("remove", "log.1"), ("remove", "tidy"), ("sync names",), ("sync", "log.0"), ("sync names",),
        ], {"log.0": files["log.0"], **others})
        self.assert_opens(others, [], 0, [], 0, [("append", "log.0", []), ("sync", "log.0"), ("sync names",)],
                          {"log.0": [], **others})

    def test_a_file_tidy(self):
        self.assert_opens({"tidy": [1]}, [], 0, [], 0, [
            ("append", "log.0", []), ("remove", "tidy"), ("sync names",), ("sync", "log.0"), ("sync names",),
        ], {"log.0": []})
        self.assert_opens({"tidy": snapshot_octets(1, [1]), "log.0": [1], "log.1": []}, [], 0, [], 1, [
            ("remove", "tidy"), ("append", "tidy", []), ("sync", "tidy"), ("rename", "tidy", "log.0"), ("sync names",),
            ("remove", "log.1"), ("sync names",),
        ], {"log.0": []})

    def test_a_torn_end(self):
        octets = log_octets(1, [1], [2, 3])
        for torn in ([0], [9] * 7, [0] * 8, log_octets(3, [4])[:-1], log_octets(4, [4]), log_octets(1, [1])):
            self.assert_opens({"log.0": octets + torn}, [], 0, [[1], [2, 3]], len(torn), [
                ("append", "tidy", octets), ("sync", "tidy"), ("rename", "tidy", "log.0"), ("sync names",),
            ], {"log.0": octets})
        files = {"snap.1": snapshot_octets(2, []), "snap.2": snapshot_octets(2, [8]), "log.2": log_octets(3, [1]) + [7]}
        self.assert_opens(files, [8], 2, [[1]], 1, [
            ("append", "tidy", log_octets(3, [1])), ("sync", "tidy"), ("rename", "tidy", "log.2"), ("sync names",),
            ("remove", "snap.1"), ("sync names",),
        ], {"snap.2": files["snap.2"], "log.2": log_octets(3, [1])})

    def test_logs_that_are_cut_off_anywhere(self):
        records = [[1], [], [2, 3, 4], []]
        ends = [len(log_octets(1, *records[:count])) for count in range(5)]
        octets = log_octets(1, *records)
        for length in range(len(octets) + 1):
            whole = max(count for count in range(5) if ends[count] <= length)
            disk = disk_with({"log.0": octets[:length]})
            self.assert_holds(Journal(disk), [], 0, records[:whole], length - ends[whole])
            self.assertEqual({"log.0": octets[:ends[whole]]}, files_of(disk))

    def test_logs_that_are_changed_anywhere(self):
        """The record that was changed is the first one that is not read any more."""
        records = [[1], [], [2, 3, 4], [5]]
        ends = [len(log_octets(1, *records[:count])) for count in range(5)]
        octets = log_octets(1, *records)
        for at in range(len(octets)):
            before = max(count for count in range(5) if ends[count] <= at)
            for bits in (1, 128, 255):
                changed = octets[:at] + [octets[at] ^ bits] + octets[at + 1:]
                self.assert_holds(Journal(disk_with({"log.0": changed})), [], 0, records[:before],
                                  len(octets) - ends[before])

    def test_a_burst_of_32_bits_in_the_octets_of_a_record(self):
        chosen = random.Random(70)
        record = [chosen.randrange(256) for _ in range(12)]
        octets = log_octets(1, [7], record, [8])
        begin = len(log_octets(1, [7])) + 8
        for bit in range(96):
            for length in (1, 2, 9, 31, 32):
                if bit + length <= 96:
                    burst = (1 << length - 1 | chosen.randrange(2 ** length) | 1) << 96 - bit - length
                    changed = list(octets)
                    for at in range(12):
                        changed[begin + at] ^= burst >> 8 * (11 - at) & 255
                    self.assertEqual([[7]], Journal(disk_with({"log.0": changed})).records())

    def test_a_record_in_another_place(self):
        """The number of a record belongs to its sum."""
        one, two = log_octets(1, [5]), log_octets(2, [5])
        self.assertEqual([[5], [5]], Journal(disk_with({"log.0": one + two})).records())
        for octets, records in ((two, []), (one + one, [[5]]), (two + one, []), (one + one + two, [[5]])):
            self.assertEqual(records, Journal(disk_with({"log.0": octets})).records())
        self.assertEqual([], Journal(disk_with({"snap.1": snapshot_octets(1, []), "log.1": one})).records())
        self.assertEqual([[5]], Journal(disk_with({"snap.1": snapshot_octets(1, []), "log.1": two})).records())

    def test_a_damaged_snapshot(self):
        good = snapshot_octets(3, [5, 6])
        for octets in [good[:length] for length in range(len(good))] + [good + [1]] + [
                good[:at] + [good[at] ^ bit] + good[at + 1:] for at in range(len(good)) for bit in (1, 64)]:
            files = {"snap.2": octets, "log.2": [], "log.1": [1], "snap.1": good, "tidy": []}
            disk = disk_with(files, WatchedDisk)
            self.assert_raises_at(Damaged, 0, lambda: Journal(disk))
            self.assertEqual([], disk.done)
        for octets in ([], [0] * 11, [0] * 12 + [1], [1] * 12):
            self.assert_raises_at(Damaged, 0, lambda: Journal(disk_with({"snap.1": octets})))
        self.assert_holds(Journal(disk_with({"snap.1": [0] * 12})), [], 0, [])

    def test_a_snapshot_of_an_older_generation_is_not_looked_at(self):
        disk = disk_with({"snap.1": [1, 2, 3], "snap.2": snapshot_octets(1, [7])})
        self.assert_holds(Journal(disk), [7], 1, [])


class PowerTest(JournalTest):
    """Point 13.9."""

    def run_calls(self, disk, calls):
        """Makes the calls on a journal until the power is lost. Returns what may and what must be there then."""
        told = {"appended": [], "must last": 0, "must base": 0, "snapshots": {0: [[]]}}
        try:
            journal = Journal(disk)
            for word, octets in calls:
                if word == "append":
                    told["appended"].append(octets)
                    journal.append(octets)
                elif word == "sync":
                    journal.sync()
                    told["must last"] = len(told["appended"])
                else:
                    told["snapshots"].setdefault(len(told["appended"]), []).append(octets)
                    journal.compact(octets)
                    told["must last"] = told["must base"] = len(told["appended"])
                    told["snapshots"] = {base: rows if base != told["must base"] else [octets]
                                         for base, rows in told["snapshots"].items()}
        except PowerLost:
            return told, False
        return told, True

    def assert_right(self, told, disk, context):
        """Opening the journal gives what point 13.9 asks, and a second time the same."""
        before = None
        for _ in range(2):
            journal = Journal(disk)
            base, last = journal.base(), journal.last()
            self.assertIn(base, told["snapshots"], context)
            self.assertIn(journal.snapshot(), told["snapshots"][base], context)
            self.assertGreaterEqual(base, told["must base"], context)
            self.assertGreaterEqual(last, told["must last"], context)
            self.assertEqual(told["appended"][base:last], journal.records(), context)
            self.assertIn(before, (None, (base, last, journal.snapshot())), context)
            before = (base, last, journal.snapshot())
            self.assertEqual(last + 1, copy.deepcopy(journal).append([1]))
        self.assertEqual(0, journal.torn())

    CALLS = (
        [("append", [1]), ("sync", None), ("append", [2, 3]), ("append", []), ("compact", [7]), ("append", [4]),
         ("sync", None), ("append", [5]), ("compact", [8, 8]), ("append", [6])],
        [("compact", []), ("compact", [1]), ("append", [1]), ("compact", [2]), ("compact", [3])],
        [("append", [1]), ("append", [2]), ("append", [3])],
    )

    def test_losing_the_power_behind_every_operation(self):
        count = 0
        for calls in self.CALLS:
            for allowed in itertools.count():
                disk = Disk()
                disk.allow(allowed)
                told, is_done = self.run_calls(disk, calls)
                for choices in all_choices(disk):
                    lost = copy.deepcopy(disk)
                    lost.lose(choices)
                    self.assert_right(told, lost, (allowed, choices))
                    count += 1
                if is_done:
                    break
        self.assertGreater(count, 300)

    def test_losing_the_power_again_while_it_is_opened(self):
        calls = [("append", [1]), ("compact", [7]), ("append", [4, 4]), ("sync", None), ("append", []), ("compact", [8])]
        chosen = random.Random(71)
        for allowed in itertools.count():
            disk = Disk()
            disk.allow(allowed)
            told, is_done = self.run_calls(disk, calls)
            first = list(all_choices(disk))
            for choices in chosen.sample(first, min(len(first), 6)):
                for again in range(9):
                    lost = copy.deepcopy(disk)
                    lost.lose(choices)
                    lost.allow(again)
                    is_open = tried(Journal, lost)
                    for more in all_choices(lost):
                        twice = copy.deepcopy(lost)
                        twice.lose(more)
                        self.assert_right(told, twice, (allowed, choices, again, more))
                    if is_open:
                        break
            if is_done:
                break

    def test_many_losses_one_after_the_other(self):
        """The journal goes on being used behind each loss, on the same disk."""
        chosen = random.Random(72)
        for _ in range(60):
            disk = Disk()
            appended, snapshots = [], {0: [[]]}
            must_base = must_last = 0
            for _ in range(12):
                disk.allow(chosen.randrange(25))
                try:
                    journal = Journal(disk)
                    self.assertGreaterEqual(journal.last(), must_last)
                    self.assertGreaterEqual(journal.base(), must_base)
                    self.assertIn(journal.snapshot(), snapshots[journal.base()])
                    self.assertEqual(appended[journal.base():journal.last()], journal.records())
                    appended = appended[:journal.last()]
                    for _ in range(8):
                        word = chosen.choice(["append", "append", "append", "sync", "compact"])
                        octets = [chosen.randrange(256) for _ in range(chosen.randrange(4))]
                        if word == "append":
                            appended.append(octets)
                            journal.append(octets)
                        elif word == "sync":
                            journal.sync()
                            must_last = len(appended)
                        else:
                            snapshots.setdefault(len(appended), []).append(octets)
                            journal.compact(octets)
                            must_base = must_last = len(appended)
                except PowerLost:
                    pass
                disk.lose([chosen.randrange(40) for _ in range(6)])

    def test_what_is_raised(self):
        """PowerLost comes from the disk, behind each operation of opening and of each call."""
        for allowed in range(3):
            disk = Disk()
            disk.allow(allowed)
            self.assert_raises_at(PowerLost, 0, lambda: Journal(disk))
        for call, many in ((lambda journal: journal.append([1]), 1), (lambda journal: journal.sync(), 1),
                           (lambda journal: journal.compact([1]), 9)):
            for allowed in range(many + 1):
                disk = Disk()
                journal = Journal(disk)
                disk.allow(allowed)
                if allowed < many:
                    self.assert_raises_at(PowerLost, 0, lambda: call(journal))
                else:
                    call(journal)


if __name__ == "__main__":
    unittest.main()
