"""A vault, and the blobs, trees and commits that are put into it."""

from strata.errors import BadCommit, BadTree, NoObject
from strata.names import is_name, names_rise

MOST_PARENTS = 2


class Vault:
    def __init__(self):
        self.objects = []
        self.numbers = {}

    def size(self):
        return len(self.objects)

    def kind(self, number):
        return self.held(number)[0]

    def held(self, number):
        if not 0 <= number < len(self.objects):
            # The number isn't shown: Python itself refuses to write out a very great one.
            raise NoObject("no object has this number")
        return self.objects[number]

    def content(self, number, wanted):
        found = self.held(number)
        if found[0] != wanted:
            raise NoObject(f"the object with this number is no {wanted}")
        return found[1]

    def put(self, made):
        # A pair of kind and content, of tuples all through: it can't change, and is found again as a key.
        if made not in self.numbers:
            self.numbers[made] = len(self.objects)
            self.objects.append(made)
        return self.numbers[made]

    def copied(self):
        # What is held can't change, so both may hold the same.
        made = Vault()
        made.objects.extend(self.objects)
        made.numbers.update(self.numbers)
        return made


def blob(vault, text):
    return vault.put(("blob", text))


def tree(vault, entries):
    refuse_wrong_names([name for name, number in entries])
    for name, number in entries:
        if vault.kind(number) == "commit":
            raise BadTree("an entry names a commit")
    return vault.put(("tree", tuple([(name, number) for name, number in entries])))


def commit(vault, top, parents, time, message):
    refuse_wrong_commit(vault, top, parents, time, message)
    return vault.put(("commit", (top, tuple(parents), time, message)))


def text_of(vault, number):
    return vault.content(number, "blob")


def entries_of(vault, number):
    return list(vault.content(number, "tree"))


def entries_by_name(vault, number):
    # None and a blob have no entries, as if a tree without any stood there.
    if number is None or vault.kind(number) == "blob":
        return {}
    return dict(entries_of(vault, number))


def commit_of(vault, number):
    found = vault.content(number, "commit")
    return (found[0], list(found[1]), found[2], found[3])


def refuse_wrong_names(names):
    for name in names:
        if not is_name(name):
            raise BadTree("an entry's name is none")
    if not names_rise(names):
        raise BadTree("the names don't rise")


def refuse_what_is_no_tree(vault, number):
    vault.content(number, "tree")


def refuse_wrong_commit(vault, top, parents, time, message):
    refuse_what_is_no_tree(vault, top)
    for parent in parents:
        vault.content(parent, "commit")
    if len(parents) > MOST_PARENTS:
        raise BadCommit("a commit has at most two parents")
    if len(set(parents)) < len(parents):
        raise BadCommit("the parents are alike")
    if time < 0:
        raise BadCommit("the time lies below 0")
    if "\n" in message:
        raise BadCommit("the message has a line end")
