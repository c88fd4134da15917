"""Two texts merged by what they have in common with a third, their base."""

from strata.lines import lines_of, paired

OURS_MARK = "<<<<<<<\n"
MIDDLE_MARK = "=======\n"
THEIRS_MARK = ">>>>>>>\n"


def merged_text(base, ours, theirs):
    made = []
    conflicts = 0
    for base_part, our_part, their_part in parts_of([lines_of(base), lines_of(ours), lines_of(theirs)]):
        if both_changed(base_part, our_part, their_part):
            conflicts += 1
        made.extend(settled(base_part, our_part, their_part))
    return ("".join(made), conflicts)


def parts_of(rows):
    parts = []
    starts = [0, 0, 0]
    ends = [len(row) for row in rows]
    for stops in fixed_places(rows[0], rows[1], rows[2]):
        parts.append(cut(rows, starts, stops))
        starts = [stop + 1 for stop in stops]
        # A fixed line is alike in all three, so as a part of its own it stands as it is.
        parts.append(cut(rows, stops, starts))
    parts.append(cut(rows, starts, ends))
    return parts


def fixed_places(base, ours, theirs):
    in_theirs = dict(paired(base, theirs))
    return [[place, mine, in_theirs[place]] for place, mine in paired(base, ours) if place in in_theirs]


def cut(rows, starts, stops):
    return [row[start:stop] for row, start, stop in zip(rows, starts, stops)]


def both_changed(base, ours, theirs):
    return ours != base and theirs != base and theirs != ours


def changed_side(base, ours, theirs):
    return theirs if ours == base else ours


def settled(base, ours, theirs):
    if both_changed(base, ours, theirs):
        return [OURS_MARK] + closed(ours) + [MIDDLE_MARK] + closed(theirs) + [THEIRS_MARK]
    return changed_side(base, ours, theirs)


def closed(lines):
    # Only the last line of a text can lack its line end; without it the mark behind would stand on that line.
    return [line if line.endswith("\n") else line + "\n" for line in lines]
