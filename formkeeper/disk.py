"""A disk that may lose its power."""

from formkeeper.errors import PowerLost


class DiskFile:
    """The octets of a file, and how many of them are kept. It may have several names or none: one
    that the disk shows, and others as long as the changes of names are not kept."""

    def __init__(self, number):
        self.number = number
        self.octets = []
        self.many_kept = 0

    def keep(self):
        """Keeps all octets."""
        self.many_kept = len(self.octets)

    def lose(self, many_more):
        """Loses the octets that are not kept, but for as many of them."""
        self.octets = self.octets[:self.many_kept + many_more]
        self.keep()


def with_change(files, change):
    """Returns the files by their names, as they are behind a change of names. The change has the
    name that goes away or None, the name that comes or None, and the file."""
    gone, come, file = change
    changed = {name: files[name] for name in files if name != gone}
    if come is not None:
        changed[come] = file
    return changed


def choice_at(choices, at, most):
    """Returns the number from 0 to `most` that the choice at an index tells."""
    if at >= len(choices):
        return 0
    return choices[at] % (most + 1)


class Disk:
    """Files with names. `shown` holds them by the names that the disk shows, and `kept` by those
    that would stay if the power were lost and none of the changes stayed."""

    def __init__(self):
        self.shown = {}
        self.kept = {}
        self.changes = []
        self.many_made = 0
        self.allowance = None

    def use_allowance(self):
        """Raises PowerLost if no operation is left."""
        if self.allowance is None:
            return
        if self.allowance == 0:
            raise PowerLost(0)
        self.allowance -= 1

    def change_names(self, change):
        self.shown = with_change(self.shown, change)
        self.changes.append(change)

    def append(self, name, octets):
        """Appends octets to a file, which is made if there is none."""
        self.use_allowance()
        if name not in self.shown:
            self.change_names((None, name, DiskFile(self.many_made)))
            self.many_made += 1
        self.shown[name].octets.extend(octets)

    def sync(self, name):
        """Keeps all octets that a file has."""
        self.use_allowance()
        self.shown[name].keep()

    def rename(self, name, new):
        """Gives a file another name."""
        self.use_allowance()
        self.change_names((name, new, self.shown[name]))

    def remove(self, name):
        """Removes a file."""
        self.use_allowance()
        self.change_names((name, None, None))

    def sync_names(self):
        """Keeps all changes of names."""
        self.use_allowance()
        self.kept = dict(self.shown)
        self.changes = []

    def names(self):
        """Returns the ascending list of the names of all files."""
        return sorted(self.shown)

    def read(self, name):
        """Returns the octets of a file, or None if there is none."""
        if name not in self.shown:
            return None
        return list(self.shown[name].octets)

    def allow(self, count):
        """Sets how many operations the disk still does; None stands for all."""
        self.allowance = count

    def lose(self, choices):
        """Loses the power; the choices tell what stays of what is not kept."""
        many_kept = choice_at(choices, 0, len(self.changes))
        for change in self.changes[:many_kept]:
            self.kept = with_change(self.kept, change)
        self.changes = []
        self.shown = dict(self.kept)
        files = sorted([self.kept[name] for name in self.kept], key=lambda file: file.number)
        for at, file in enumerate(files):
            file.lose(choice_at(choices, at + 1, len(file.octets) - file.many_kept))
        self.allowance = None
