"""What objects reach: all below them, the ancestors of commits, and what two commits have in common."""

from strata.vaults import commit_of, entries_of


def reached(vault, numbers):
    return all_below(vault, numbers, named_by)


def ancestors(vault, number):
    return all_below(vault, [number], parents_of)


def best_common(vault, one, other):
    common = sorted(set(ancestors(vault, one)) & set(ancestors(vault, other)))
    return max(without_child(vault, common), key=lambda number: (time_of(vault, number), -number), default=None)


def history(vault, number):
    return sorted(ancestors(vault, number), key=lambda found: (time_of(vault, found), found), reverse=True)


def all_below(vault, numbers, below):
    # A row of those that wait, since a history may be longer than calls within calls may go deep.
    waiting = list(numbers)
    seen = {}
    while waiting:
        number = waiting.pop()
        if number not in seen:
            seen[number] = True
            waiting.extend(below(vault, number))
    return sorted(seen)


def without_child(vault, common):
    # Ancestors of what is common are common too, so an ancestor of another such one is a parent of some such one.
    parents = {}
    for number in common:
        for parent in parents_of(vault, number):
            parents[parent] = True
    return [number for number in common if number not in parents]


def named_by(vault, number):
    kind = vault.kind(number)
    if kind == "tree":
        return [entry for name, entry in entries_of(vault, number)]
    if kind == "commit":
        return [commit_of(vault, number)[0]] + parents_of(vault, number)
    return []


def parents_of(vault, number):
    return commit_of(vault, number)[1]


def time_of(vault, number):
    return commit_of(vault, number)[2]
