"""A second reading of points 12.3 to 12.6, to compare Disk with: it keeps all that was ever done and does it again."""


class ReferenceDisk:
    def __init__(self):
        self.done = []

    def do(self, *operation):
        self.done.append(operation)

    def replay(self, done):
        """Returns the names behind these operations, the changes of names that are not kept, and of each file, in the
        order in which they were made, its octets and how many of them are kept."""
        names, loose, files, kept = {}, [], [], []
        for word, *rest in done:
            if word == "append":
                if rest[0] not in names:
                    loose.append(("make", rest[0], len(files)))
                    names[rest[0]] = len(files)
                    files.append([])
                    kept.append(0)
                files[names[rest[0]]] += rest[1]
            elif word == "sync":
                kept[names[rest[0]]] = len(files[names[rest[0]]])
            elif word == "rename":
                loose.append(("rename", *rest))
                names[rest[1]] = names.pop(rest[0])
            elif word == "remove":
                loose.append(("remove", *rest))
                del names[rest[0]]
            else:
                loose = []
        return names, loose, files, kept

    def shown(self):
        names, _, files, _ = self.replay(self.done)
        return {name: files[at] for name, at in names.items()}

    def lose(self, choices):
        names, loose, files, kept = self.replay(self.done)
        choices = list(choices) + [0] * (1 + len(files))
        stay = choices[0] % (len(loose) + 1)
        # The names that are kept are those behind the operations up to the last syncing of the names.
        last = max([at for at, each in enumerate(self.done) if each[0] == "sync names"], default=-1)
        names = self.replay(self.done[:last + 1])[0]
        for word, name, target in [each if len(each) == 3 else each + (None,) for each in loose[:stay]]:
            if word == "make":
                names[name] = target
            else:
                at = names.pop(name)
                if word == "rename":
                    names[target] = at
        self.done = []
        for choice, at in zip(choices[1:], sorted(names.values())):
            name = [each for each in names if names[each] == at][0]
            end = kept[at] + choice % (len(files[at]) - kept[at] + 1)
            self.do("append", name, files[at][:end])
            self.do("sync", name)
        self.do("sync names")
