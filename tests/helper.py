"""What several test files need."""

from strata.vaults import Vault, blob, commit, commit_of, entries_of, text_of, tree

# Numbers without an object in the small vault.
ABSENT = (-1, -2, -7, -8, 7, 8, -10 ** 14, 10 ** 15 - 1, 10 ** 15, 10 ** 40, -10 ** 5000, 10 ** 5000)


def all_told(vault):
    """All that a vault tells of its objects, in the order of their numbers."""
    tellers = {"blob": text_of, "tree": entries_of, "commit": commit_of}
    kinds = [vault.kind(number) for number in range(vault.size())]
    return [(kind, tellers[kind](vault, number)) for number, kind in enumerate(kinds)]


def small_vault():
    """A vault with, from 0 on: a blob, a tree, two blobs more, and three commits."""
    vault = Vault()
    blob(vault, "one\n")
    tree(vault, [("a", 0)])
    blob(vault, "")
    blob(vault, "two")
    commit(vault, 1, [], 5, "first")
    commit(vault, 1, [4], 6, "second")
    commit(vault, 1, [4, 5], 7, "third")
    return vault
