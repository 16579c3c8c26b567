"""Subjects and their versions."""


class Version:
    """A version that stands, or is hidden: the number of its schema, its text, its references."""

    def __init__(self, number, text, references, stands):
        self.number = number
        self.text = text
        self.references = references
        self.stands = stands

    def refers_to(self, subject, versions):
        """Returns True if it refers to one of the versions of a subject, a dict."""
        for _, other, version in self.references:
            if other == subject and version in versions:
                return True
        return False


class Subject:
    """The versions of a subject that are not gone, ascending; how many were made; its own mode."""

    def __init__(self):
        self.mode = None
        self.many_made = 0
        self.versions = {}

    def standing(self):
        """Returns the ascending list of the versions that stand."""
        return [version for version in self.versions if self.versions[version].stands]

    def is_there(self):
        """Returns True if a version stands."""
        return len(self.standing()) > 0

    def chosen(self, version):
        """Returns the version that stands with a number, or that is the "latest", or None."""
        if version == "latest":
            standing = self.standing()
            return standing[-1] if standing else None
        return version if version in self.versions and self.versions[version].stands else None

    def version_of(self, number):
        """Returns the version that stands which has the schema with a number, or None."""
        for version in self.standing():
            if self.versions[version].number == number:
                return version
        return None

    def add(self, version):
        """Makes a version, and returns its number."""
        self.many_made += 1
        self.versions[self.many_made] = version
        return self.many_made

    def hide(self, versions):
        for version in versions:
            self.versions[version].stands = False

    def drop(self, versions):
        """Lets versions be gone."""
        for version in versions:
            del self.versions[version]
