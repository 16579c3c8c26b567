"""Journals: rows of records on a disk that withstand the loss of its power."""

from formkeeper.bigend import read_wide, write_wide
from formkeeper.errors import Damaged
from formkeeper.sums import sum_of

SPARE = "tidy"
PREFIXES = ("log.", "snap.", SPARE)
# A snapshot file has a number ahead of the snapshot and a sum behind it.
LEAST_SNAPSHOT = 12
RECORD_HEAD = 8


def log_of(generation):
    """Returns the name of the log of a generation."""
    return "log." + str(generation)


def snapshot_of(generation):
    """Returns the name of the snapshot file of a generation."""
    return "snap." + str(generation)


def is_of_journal(name):
    """Returns True if only a journal has files with such a name."""
    for prefix in PREFIXES:
        if name.startswith(prefix):
            return True
    return False


def newest_generation(names):
    """Returns the largest generation that has a snapshot file, or 0."""
    return max([int(name[len("snap."):]) for name in names if name.startswith("snap.")], default=0)


def write_snapshot(base, snapshot):
    """Returns the octets of a snapshot file."""
    octets = write_wide(base, 8) + snapshot
    return octets + write_wide(sum_of(octets), 4)


def read_snapshot(octets):
    """Returns the number of the records that a snapshot stands for, and the snapshot."""
    body = octets[:-4]
    if len(octets) < LEAST_SNAPSHOT or sum_of(body) != read_wide(octets[-4:]):
        raise Damaged(0)
    return read_wide(body[:8]), body[8:]


def write_record(number, record):
    """Returns the octets of the record with a number in a log."""
    return write_wide(len(record), 4) + write_wide(sum_of(write_wide(number, 8) + record), 4) + record


def read_records(octets, first):
    """Returns the list of the records of a log, the first of which has this number, and the place
    behind them."""
    records = []
    at = 0
    while at < len(octets):
        end = at + RECORD_HEAD + read_wide(octets[at:at + 4])
        record = octets[at + RECORD_HEAD:end]
        # A record that is not whole would be written with another length.
        if octets[at:end] != write_record(first + len(records), record):
            break
        records.append(record)
        at = end
    return records, at


class Journal:
    """A journal on a disk: the snapshot, `state`, how many records it stands for, `many_before`, and
    the records behind it, `rows`."""

    def __init__(self, disk):
        self.disk = disk
        self.generation = newest_generation(disk.names())
        self.many_before = 0
        self.state = []
        if self.generation != 0:
            self.many_before, self.state = read_snapshot(disk.read(snapshot_of(self.generation)))
        octets = disk.read(log_of(self.generation))
        is_new = octets is None
        if is_new:
            octets = []
        self.rows, end = read_records(octets, self.many_before + 1)
        self.many_torn = len(octets) - end
        self.tidy_up(is_new, octets[:end])

    def tidy_up(self, is_new, octets):
        """Brings the disk in order, where the log begins with these octets of its records."""
        log = log_of(self.generation)
        if is_new:
            self.disk.append(log, [])
        if self.many_torn > 0:
            self.write_spare(octets)
            self.disk.rename(SPARE, log)
            self.disk.sync_names()
        self.remove_others([log, snapshot_of(self.generation)] if self.generation != 0 else [log])
        if self.many_torn == 0:
            self.disk.sync(log)
            self.disk.sync_names()

    def write_spare(self, octets):
        """Writes a file that gets its right name only when all of it is kept."""
        if self.disk.read(SPARE) is not None:
            self.disk.remove(SPARE)
        self.disk.append(SPARE, octets)
        self.disk.sync(SPARE)

    def remove_others(self, kept):
        """Removes the files of journals that do not have one of these names."""
        others = [name for name in self.disk.names() if is_of_journal(name) and name not in kept]
        for name in others:
            self.disk.remove(name)
        if others:
            self.disk.sync_names()

    def snapshot(self):
        """Returns the octets of the snapshot."""
        return list(self.state)

    def base(self):
        """Returns the number of records that the snapshot stands for."""
        return self.many_before

    def records(self):
        """Returns the list of the records behind the snapshot."""
        return [list(record) for record in self.rows]

    def last(self):
        """Returns the number of the last record that was appended, or 0 if none was."""
        return self.many_before + len(self.rows)

    def torn(self):
        """Returns the number of octets of the torn end that was found when the journal was opened."""
        return self.many_torn

    def append(self, record):
        """Appends a record, and returns its number."""
        number = self.last() + 1
        self.disk.append(log_of(self.generation), write_record(number, record))
        self.rows.append(list(record))
        return number

    def sync(self):
        """Syncs the journal."""
        self.disk.sync(log_of(self.generation))

    def compact(self, snapshot):
        """Puts a snapshot into the place of all records."""
        old = self.generation
        new = old + 1
        self.disk.sync(log_of(old))
        self.write_spare(write_snapshot(self.last(), snapshot))
        self.disk.append(log_of(new), [])
        self.disk.sync_names()
        self.disk.rename(SPARE, snapshot_of(new))
        self.disk.sync_names()
        self.disk.remove(log_of(old))
        if old != 0:
            self.disk.remove(snapshot_of(old))
        self.disk.sync_names()
        self.many_before = self.last()
        self.state = list(snapshot)
        self.rows = []
        self.generation = new
