"""What several test files need."""

from strata.errors import StrataError
from strata.vaults import Vault, blob, commit, commit_of, entries_of, text_of, tree

# Numbers without an object in the small vault.
ABSENT = (-1, -2, -7, -8, 7, 8, -10 ** 14, 10 ** 15 - 1, 10 ** 15, 10 ** 40, -10 ** 5000, 10 ** 5000)


def all_told(vault):
    """All that a vault tells of its objects, in the order of their numbers."""
    tellers = {"blob": text_of, "tree": entries_of, "commit": commit_of}
    kinds = [vault.kind(number) for number in range(vault.size())]
    return [(kind, tellers[kind](vault, number)) for number, kind in enumerate(kinds)]


def small_vault():
    """A vault with, from 0 on: a blob, a tree, two blobs more, and three commits."""
    vault = Vault()
    blob(vault, "one\n")
    tree(vault, [("a", 0)])
    blob(vault, "")
    blob(vault, "two")
    commit(vault, 1, [], 5, "first")
    commit(vault, 1, [4], 6, "second")
    commit(vault, 1, [4, 5], 7, "third")
    return vault


def grow(vault, shape):
    """Puts a shape, a text for a blob or a dict from names to shapes for a tree, and tells its number."""
    if isinstance(shape, str):
        return blob(vault, shape)
    return tree(vault, [(name, grow(vault, shape[name])) for name in sorted(shape)])


def shape_of(vault, number):
    """The shape of a blob or a tree: all that it means, without any number."""
    if vault.kind(number) == "blob":
        return text_of(vault, number)
    return {name: shape_of(vault, entry) for name, entry in entries_of(vault, number)}


def meaning_of(vault, number):
    """All that a commit means, or a blob or a tree, without any number."""
    if vault.kind(number) != "commit":
        return shape_of(vault, number)
    top, parents, time, message = commit_of(vault, number)
    return (shape_of(vault, top), [meaning_of(vault, parent) for parent in parents], time, message)


def refusal_of(function, *arguments):
    """The very class of the refusal that comes, or None."""
    try:
        function(*arguments)
    except StrataError as refusal:
        return refusal.__class__
    return None
