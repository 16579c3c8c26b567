"""Points 12.2 to 12.6: disks."""

import copy
import random
import unittest

from formkeeper.disk import Disk
from formkeeper.errors import PowerLost
from tests.disk_reference import ReferenceDisk
from tests.support import ProgramTest


class DiskTest(ProgramTest):

    def contents(self, disk):
        names = self.called(disk.names)
        self.assertIs(list, names.__class__)
        self.assertEqual(sorted(names), names)
        return {name: self.called(disk.read, name) for name in names}

    def assert_shows(self, expected, disk):
        self.assertEqual(expected, self.contents(disk))
        self.assertIsNone(disk.read("none"))

    def assert_left(self, expected, disk, choices):
        """Behind the loss of the power, with these choices, the disk shows this, and keeps all of it."""
        disk = copy.deepcopy(disk)
        self.assertIsNone(self.called(disk.lose, choices))
        self.assert_shows(expected, disk)
        for more in ([], [1, 1, 1, 1], [7, 7, 7, 7]):
            disk.lose(more)
            self.assert_shows(expected, disk)

    def made(self, *operations):
        """Returns a disk behind these operations, each of which returns None."""
        disk = Disk()
        for word, *rest in operations:
            self.assertIsNone(self.called(getattr(disk, word), *rest))
        return disk


class OperationsTest(DiskTest):

    def test_examples_of_the_document(self):
        d = Disk()
        d.append("a", [1, 2])
        d.sync("a")
        d.sync_names()
        d.append("a", [3, 4, 5])
        d.lose([0, 1])
        self.assertEqual([1, 2, 3], d.read("a"))

    def test_a_new_disk(self):
        self.assert_shows({}, Disk())
        self.assertEqual([], Disk().names())
        self.assert_left({}, Disk(), [])
        self.assert_left({}, Disk(), [5, 5])

    def test_appending(self):
        disk = self.made(("append", "b", [1]), ("append", "a", []), ("append", "b", [2, 255]), ("append", "b", []))
        self.assert_shows({"a": [], "b": [1, 2, 255]}, disk)
        self.assertEqual(["a", "b"], disk.names())

    def test_names_are_ascending(self):
        disk = self.made(*[("append", name, []) for name in ("log.2", "a", "log.10", "-", "z.", "9", "snap.1", "log.")])
        self.assertEqual(["-", "9", "a", "log.", "log.10", "log.2", "snap.1", "z."], disk.names())

    def test_renaming(self):
        disk = self.made(("append", "a", [1]), ("rename", "a", "b"), ("append", "b", [2]), ("append", "a", [3]))
        self.assert_shows({"a": [3], "b": [1, 2]}, disk)
        disk.rename("a", "b")
        self.assert_shows({"b": [3]}, disk)
        disk.append("b", [4])
        self.assert_shows({"b": [3, 4]}, disk)

    def test_removing(self):
        disk = self.made(("append", "a", [1]), ("append", "b", [2]), ("remove", "a"))
        self.assert_shows({"b": [2]}, disk)
        disk.append("a", [9])
        self.assert_shows({"a": [9], "b": [2]}, disk)

    def test_syncing_changes_nothing_that_the_disk_shows(self):
        disk = self.made(("append", "a", [1]), ("sync", "a"), ("sync_names",), ("append", "a", [2]), ("sync_names",))
        self.assert_shows({"a": [1, 2]}, disk)

    def test_lists_may_be_changed_by_the_caller(self):
        disk = Disk()
        octets = [1, 2]
        disk.append("a", octets)
        octets.append(3)
        disk.append("a", octets)
        octets.clear()
        self.assertEqual([1, 2, 1, 2, 3], disk.read("a"))
        disk.read("a").append(4)
        disk.names().append("x")
        disk.sync("a")
        disk.sync_names()
        choices = [0]
        disk.lose(choices)
        disk.read("a").clear()
        self.assertEqual(["a"], disk.names())
        self.assertEqual([1, 2, 1, 2, 3], disk.read("a"))


class PowerTest(DiskTest):

    def test_octets(self):
        disk = self.made(("append", "a", [1, 2]), ("sync", "a"), ("sync_names",), ("append", "a", [3, 4, 5]))
        for choice in range(12):
            self.assert_left({"a": [1, 2, 3, 4, 5][:2 + choice % 4]}, disk, [0, choice])
        self.assert_left({"a": [1, 2]}, disk, [])
        self.assert_left({"a": [1, 2]}, disk, [3])
        self.assert_left({"a": [1, 2, 3]}, disk, [2, 1, 9, 9])
        disk.sync("a")
        for choices in ([], [0, 0], [0, 1], [5, 7]):
            self.assert_left({"a": [1, 2, 3, 4, 5]}, disk, choices)

    def test_octets_that_were_never_synced(self):
        disk = self.made(("append", "a", [1, 2]), ("sync_names",))
        for choice in range(7):
            self.assert_left({"a": [1, 2][:choice % 3]}, disk, [0, choice])

    def test_making(self):
        disk = self.made(("append", "a", [1, 2]), ("sync", "a"))
        self.assert_left({}, disk, [])
        self.assert_left({}, disk, [0, 2])
        self.assert_left({"a": [1, 2]}, disk, [1])
        self.assert_left({}, disk, [2])
        self.assert_left({"a": [1, 2]}, disk, [3])
        disk.append("a", [3])
        disk.append("b", [4])
        self.assert_left({"a": [1, 2]}, disk, [1])
        self.assert_left({"a": [1, 2, 3]}, disk, [1, 1])
        self.assert_left({"a": [1, 2], "b": []}, disk, [2])
        self.assert_left({"a": [1, 2], "b": [4]}, disk, [2, 0, 1])
        self.assert_left({"a": [1, 2, 3], "b": []}, disk, [5, 3, 2])

    def test_a_file_is_synced_and_its_name_is_not(self):
        disk = self.made(("append", "a", [1]), ("sync", "a"), ("rename", "a", "b"), ("sync", "b"))
        self.assert_left({}, disk, [0])
        self.assert_left({"a": [1]}, disk, [1])
        self.assert_left({"b": [1]}, disk, [2])

    def test_the_choices_follow_the_order_in_which_the_files_were_made(self):
        disk = self.made(("append", "c", [1] * 3), ("append", "a", [2] * 3), ("append", "b", [3] * 3), ("sync_names",))
        self.assert_left({"a": [2] * 2, "b": [3] * 3, "c": [1]}, disk, [0, 1, 2, 3])
        disk.rename("c", "x")
        disk.rename("b", "c")
        disk.sync_names()
        self.assert_left({"a": [2] * 2, "c": [3] * 3, "x": [1]}, disk, [0, 1, 2, 3])

    def test_a_file_that_has_all_kept_takes_a_choice(self):
        disk = self.made(("append", "a", [1]), ("sync", "a"), ("append", "b", [2, 2]), ("sync_names",))
        self.assert_left({"a": [1], "b": [2]}, disk, [0, 5, 1])

    def test_a_file_without_a_name_takes_no_choice(self):
        disk = self.made(("append", "a", [1, 1]), ("append", "b", [2, 2]), ("remove", "a"))
        self.assert_left({"b": [2]}, disk, [3, 1])
        self.assert_left({"a": [1], "b": [2, 2]}, disk, [2, 1, 2])
        self.assert_left({"a": [1]}, disk, [1, 1, 2])

    def test_removing(self):
        disk = self.made(("append", "a", [1, 2]), ("sync", "a"), ("sync_names",), ("append", "a", [3]), ("remove", "a"))
        self.assert_left({"a": [1, 2]}, disk, [])
        self.assert_left({"a": [1, 2, 3]}, disk, [0, 1])
        self.assert_left({}, disk, [1])
        disk.sync_names()
        self.assert_left({}, disk, [0])

    def test_renaming_to_the_name_of_another_file(self):
        disk = self.made(("append", "a", [1]), ("append", "b", [2]), ("sync", "a"), ("sync", "b"), ("sync_names",),
                         ("rename", "a", "b"))
        self.assert_left({"a": [1], "b": [2]}, disk, [0])
        self.assert_left({"b": [1]}, disk, [1])
        disk.sync_names()
        self.assert_left({"b": [1]}, disk, [0])

    def test_several_files_under_one_name(self):
        disk = self.made(
            ("append", "a", [1, 1]), ("sync", "a"), ("sync_names",),
            ("append", "a", [1]), ("remove", "a"), ("append", "a", [2, 2]), ("sync", "a"), ("append", "a", [2]),
            ("rename", "a", "b"), ("append", "a", [3]), ("rename", "b", "a"), ("append", "b", [4]), ("remove", "a"))
        expected = [
            ({"a": [1, 1]}, {"a": [1, 1, 1]}),
            ({}, {}),
            ({"a": [2, 2]}, {"a": [2, 2, 2]}),
            ({"b": [2, 2]}, {"b": [2, 2, 2]}),
            ({"b": [2, 2], "a": []}, {"b": [2, 2, 2], "a": [3]}),
            ({"a": [2, 2]}, {"a": [2, 2, 2]}),
            ({"a": [2, 2], "b": []}, {"a": [2, 2, 2], "b": [4]}),
            ({"b": []}, {"b": [4]}),
        ]
        for stay, (least, most) in enumerate(expected):
            self.assert_left(least, disk, [stay])
            self.assert_left(most, disk, [stay + 8, 1, 1])

    def test_syncing_the_names_does_not_keep_octets(self):
        disk = self.made(("append", "a", [1]), ("sync_names",), ("rename", "a", "b"), ("sync_names",))
        self.assert_left({"b": []}, disk, [])

    def test_the_disk_goes_on_behind_a_loss(self):
        disk = self.made(("append", "a", [1, 2]), ("sync_names",), ("append", "b", [3]))
        disk.lose([1, 1, 1])
        self.assert_shows({"a": [1], "b": [3]}, disk)
        disk.append("a", [7, 8])
        disk.append("c", [9])
        self.assert_left({"a": [1], "b": [3]}, disk, [])
        self.assert_left({"a": [1, 7], "b": [3], "c": [9]}, disk, [1, 1, 0, 1])


class AllowanceTest(DiskTest):

    def test_each_operation_uses_one(self):
        operations = (("append", "a", [1]), ("append", "a", []), ("sync", "a"), ("rename", "a", "b"), ("sync_names",),
                      ("append", "c", []), ("remove", "b"))
        for count in range(len(operations) + 1):
            disk, other = Disk(), Disk()
            self.assertIsNone(disk.allow(count))
            for at, (word, *rest) in enumerate(operations):
                if at < count:
                    self.assertIsNone(self.called(getattr(disk, word), *rest))
                    getattr(other, word)(*rest)
                else:
                    for _ in range(2):
                        self.assert_raises_at(PowerLost, 0, getattr(disk, word), *operations[at][1:])
                    break
            self.assertEqual(self.contents(other), self.contents(disk))
            for choices in ([], [1], [9, 1, 1], [2, 1]):
                one, two = copy.deepcopy(disk), copy.deepcopy(other)
                one.lose(choices)
                two.lose(choices)
                self.assertEqual(self.contents(two), self.contents(one))

    def test_no_operation_is_done_without_an_allowance(self):
        disk = self.made(("append", "a", [1]), ("append", "b", [2]), ("allow", 0))
        for word, *rest in (("append", "a", [1]), ("append", "c", [1]), ("append", "a", []), ("sync", "a"),
                            ("rename", "a", "b"), ("rename", "a", "c"), ("remove", "a"), ("sync_names",)):
            self.assert_raises_at(PowerLost, 0, getattr(disk, word), *rest)
            self.assert_shows({"a": [1], "b": [2]}, disk)
        self.assert_left({}, disk, [])
        self.assert_left({"a": [], "b": []}, disk, [2])

    def test_reading_uses_nothing(self):
        disk = self.made(("append", "a", [1]), ("allow", 1))
        for _ in range(5):
            self.assertEqual((["a"], [1]), (disk.names(), disk.read("a")))
        disk.sync("a")
        self.assertEqual((["a"], [1]), (disk.names(), disk.read("a")))
        self.assert_raises_at(PowerLost, 0, disk.sync, "a")

    def test_the_allowance_is_set_anew(self):
        disk = self.made(("allow", 5), ("allow", 1), ("append", "a", [1]))
        self.assert_raises_at(PowerLost, 0, disk.sync, "a")
        disk.allow(2)
        disk.sync("a")
        disk.allow(None)
        for _ in range(20):
            disk.append("a", [1])
        self.assertEqual([1] * 21, disk.read("a"))

    def test_losing_the_power_takes_the_allowance_away(self):
        for count in (0, 1, 3):
            disk = self.made(("append", "a", [1]), ("allow", count))
            disk.lose([1, 1])
            for _ in range(20):
                disk.append("a", [2])
            self.assertEqual([1] + [2] * 20, disk.read("a"))


class SecondReadingTest(DiskTest):

    def test_operations_by_chance(self):
        chosen = random.Random(60)
        for _ in range(300):
            disk, reference = Disk(), ReferenceDisk()
            for _ in range(chosen.randrange(40)):
                self.step(chosen, disk, reference)
                self.assertEqual(reference.shown(), self.contents(disk))

    def step(self, chosen, disk, reference):
        names = disk.names()
        word = chosen.choice(["append", "append", "append", "sync", "rename", "remove", "sync names", "lose"])
        if word == "lose":
            choices = [chosen.randrange(9) for _ in range(chosen.randrange(6))]
            disk.lose(choices)
            reference.lose(choices)
        elif word == "append":
            name, octets = chosen.choice("abcd"), [chosen.randrange(256) for _ in range(chosen.randrange(4))]
            disk.append(name, octets)
            reference.do(word, name, octets)
        elif word == "sync names":
            disk.sync_names()
            reference.do(word)
        elif names:
            name = chosen.choice(names)
            new = chosen.choice([each for each in "abcde" if each != name])
            rest = (name, new) if word == "rename" else (name,)
            getattr(disk, word)(*rest)
            reference.do(word, *rest)


if __name__ == "__main__":
    unittest.main()
