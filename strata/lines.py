"""Texts as rows of lines, and how one row differs from another."""


def lines_of(text):
    # Not splitlines, which takes other signs for line ends too.
    pieces = text.split("\n")
    last = pieces.pop()
    lines = [piece + "\n" for piece in pieces]
    if last != "":
        lines.append(last)
    return lines


def paired(one, other):
    common = common_counts(one, other)
    pairs = []
    i = 0
    k = 0
    while i < len(one) and k < len(other):
        if one[i] == other[k]:
            pairs.append((i, k))
            i += 1
            k += 1
        elif common[i + 1][k] >= common[i][k + 1]:
            i += 1
        else:
            k += 1
    return pairs


def runs(one, other):
    told = []
    i = 0
    k = 0
    # The ends of both rows close the last run as a pair closes one.
    for next_i, next_k in paired(one, other) + [(len(one), len(other))]:
        if next_i > i or next_k > k:
            told.append((i, next_i - i, k, next_k - k))
        i = next_i + 1
        k = next_k + 1
    return told


def turned(one, other, told):
    made = []
    done = 0
    for i, many, k, others in told:
        made.extend(one[done:i])
        made.extend(other[k:k + others])
        done = i + many
    made.extend(one[done:])
    return made


def common_counts(one, other):
    # The row of i holds C(i, k) for each k; rows are made from the last on, each from the one behind it.
    rows = [[0] * (len(other) + 1)]
    for line in reversed(one):
        rows.append(count_row(line, other, rows[-1]))
    rows.reverse()
    return rows


def count_row(line, other, behind):
    row = [0] * (len(other) + 1)
    for k in range(len(other) - 1, -1, -1):
        if line == other[k]:
            row[k] = behind[k + 1] + 1
        else:
            row[k] = max(behind[k], row[k + 1])
    return row
