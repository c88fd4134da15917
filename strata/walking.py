"""Paths: what lies at one, a tree with another object there, all files, and the differences of two trees."""

from strata.errors import NoPath
from strata.names import is_name, joined
from strata.vaults import entries_by_name, entries_of, refuse_what_is_no_tree, tree

MOST_NAMES = 20


def found_at(vault, top, path):
    names = names_of(path)
    refuse_what_is_no_tree(vault, top)
    number = object_at(vault, top, names)
    if number is None:
        raise NoPath("nothing is at this path")
    return number


def with_object(vault, top, path, number):
    names = names_of(path)
    if names == []:
        raise NoPath("the empty path is that of the tree itself")
    refuse_what_is_no_tree(vault, top)
    if number is None and object_at(vault, top, names) is None:
        return top
    # The lowest tree is made first and refuses a wrong number, so nothing is put then.
    return tree(vault, entries_with(vault, top, names, number))


def files(vault, top, path):
    # Refuses what is no path; the paths of what lies below may be longer than one that is handed in.
    names_of(path)
    return blobs_below(vault, top, path)


def differences(vault, one, other):
    in_one = dict(files(vault, one, ""))
    in_other = dict(files(vault, other, ""))
    paths = dict(in_one)
    paths.update(in_other)
    # By names, since "-" and "." stand ahead of "/" among the signs.
    rising = sorted(paths, key=lambda path: path.split("/"))
    told = [(path, in_one.get(path), in_other.get(path)) for path in rising]
    return [row for row in told if row[1] != row[2]]


def names_of(path):
    if path == "":
        return []
    names = path.split("/")
    if len(names) > MOST_NAMES or not all([is_name(name) for name in names]):
        raise NoPath("this is no path")
    return names


def object_at(vault, top, names):
    number = top
    for name in names:
        number = entries_by_name(vault, number).get(name)
    return number


def entries_with(vault, folder, names, number):
    entries = entries_by_name(vault, folder)
    name = names[0]
    if len(names) > 1:
        number = tree_or_none(vault, entries_with(vault, entries.get(name), names[1:], number))
    if number is None:
        entries.pop(name)
    else:
        entries[name] = number
    return sorted(entries.items())


def tree_or_none(vault, entries):
    return None if entries == [] else tree(vault, entries)


def blobs_below(vault, top, path):
    found = []
    for name, number in entries_of(vault, top):
        place = joined(path, name)
        if vault.kind(number) == "blob":
            found.append((place, number))
        else:
            found.extend(blobs_below(vault, number, place))
    return found
