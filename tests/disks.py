"""Disks of journals: their files octet by octet, what they do, and all ways in which they may lose their power."""

import copy
import itertools

from formkeeper.disk import Disk, with_change
from formkeeper.errors import PowerLost
from formkeeper.sums import sum_of


def wide(number, count):
    """Returns a number in as many octets, the most significant one first."""
    return [number >> 8 * at & 255 for at in reversed(range(count))]


def log_octets(first, *records):
    """Returns a log whose first record has this number (point 13.3)."""
    octets = []
    for number, record in enumerate(records, first):
        octets += wide(len(record), 4) + wide(sum_of(wide(number, 8) + record), 4) + record
    return octets


def snapshot_octets(base, snapshot):
    """Returns a snapshot file (point 13.4)."""
    octets = wide(base, 8) + snapshot
    return octets + wide(sum_of(octets), 4)


class WatchedDisk(Disk):
    """A disk that writes down its operations."""

    def __init__(self):
        super().__init__()
        self.done = []

    def append(self, name, octets):
        super().append(name, octets)
        self.done.append(("append", name, list(octets)))

    def sync(self, name):
        super().sync(name)
        self.done.append(("sync", name))

    def rename(self, name, new):
        super().rename(name, new)
        self.done.append(("rename", name, new))

    def remove(self, name):
        super().remove(name)
        self.done.append(("remove", name))

    def sync_names(self):
        super().sync_names()
        self.done.append(("sync names",))


def disk_with(files, disk_class=Disk):
    """Returns a disk that keeps these files."""
    disk = disk_class()
    for name, octets in files.items():
        disk.append(name, octets)
        disk.sync(name)
    disk.sync_names()
    if disk_class is WatchedDisk:
        disk.done = []
    return disk


def files_of(disk):
    return {name: disk.read(name) for name in disk.names()}


def tried(call, *arguments):
    """Calls something; returns whether it returned (True), or the power was lost (False)."""
    try:
        call(*arguments)
    except PowerLost:
        return False
    return True


def lost_with(disk, choices):
    """Returns a copy of a disk behind the loss of its power."""
    lost = copy.deepcopy(disk)
    lost.lose(choices)
    return lost


def all_choices(disk):
    """Returns all choices that make a difference: each number of changes of names, each beginning of each file."""
    for stay in range(len(disk.changes) + 1):
        names = disk.kept
        for change in disk.changes[:stay]:
            names = with_change(names, change)
        files = sorted(names.values(), key=lambda file: file.number)
        loose = [len(file.octets) - file.many_kept for file in files]
        for octets in itertools.product(*[range(count + 1) for count in loose]):
            yield [stay, *octets]
