"""Two trees, or the trees of two commits, merged by what they have in common with a third, their base."""

from strata.names import joined
from strata.reaching import best_common
from strata.texts import both_changed, changed_side, merged_text
from strata.vaults import blob, commit_of, entries_by_name, entries_of, refuse_what_is_no_tree, text_of, tree


def merged(vault, ours, theirs):
    common = best_common(vault, ours, theirs)
    base = None if common is None else top_of(vault, common)
    return merged_trees(vault, base, top_of(vault, ours), top_of(vault, theirs))


def merged_trees(vault, base, ours, theirs):
    if base is not None:
        refuse_what_is_no_tree(vault, base)
    refuse_what_is_no_tree(vault, ours)
    refuse_what_is_no_tree(vault, theirs)
    return merged_by_names(vault, base, ours, theirs, "")


def top_of(vault, number):
    return commit_of(vault, number)[0]


def merged_by_names(vault, base, ours, theirs, path):
    base_entries = entries_by_name(vault, base)
    our_entries = entries_by_name(vault, ours)
    their_entries = entries_by_name(vault, theirs)
    entries = []
    conflicts = []
    for name in sorted(set(our_entries) | set(their_entries)):
        three = [base_entries.get(name), our_entries.get(name), their_entries.get(name)]
        made = merged_entry(vault, three[0], three[1], three[2], joined(path, name))
        if made[0] is not None:
            entries.append((name, made[0]))
        conflicts.extend(made[1])
    return (tree(vault, entries), conflicts)


def merged_entry(vault, base, ours, theirs, path):
    if not both_changed(base, ours, theirs):
        return (changed_side(base, ours, theirs), [])
    kinds = [kind_of(vault, ours), kind_of(vault, theirs)]
    if kinds == ["tree", "tree"]:
        return none_if_empty(vault, merged_by_names(vault, base, ours, theirs, path))
    if kinds == ["blob", "blob"]:
        return merged_blobs(vault, base, ours, theirs, path)
    return (theirs if ours is None else ours, [path])


def none_if_empty(vault, made):
    return made if entries_of(vault, made[0]) else (None, made[1])


def merged_blobs(vault, base, ours, theirs, path):
    base_text = text_of(vault, base) if kind_of(vault, base) == "blob" else ""
    made = merged_text(base_text, text_of(vault, ours), text_of(vault, theirs))
    return (blob(vault, made[0]), [path] * made[1])


def kind_of(vault, number):
    return "none" if number is None else vault.kind(number)
