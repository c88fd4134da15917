"""Packs: the lines that carry objects from one vault to another."""

from strata.errors import BadCommit, BadPack, BadTree, NoObject
from strata.reaching import reached
from strata.vaults import blob, commit, commit_of, entries_of, refuse_wrong_commit, text_of, tree

FIGURES = "0123456789"
MOST_FIGURES = 15


def packed(vault, wanted, had):
    lines = []
    for number in sorted(set(reached(vault, wanted)) - set(reached(vault, had))):
        lines.extend(lines_of_object(vault, number))
    return lines


def unpacked(vault, lines, known):
    # Read into a copy first, so that a wrong line finds the vault as it was.
    trial = vault.copied()
    reader = Reader(trial, lines, known)
    while reader.has_more():
        reader.read_object()
    for number in range(vault.size(), trial.size()):
        vault.put(trial.held(number))
    return reader.told


def lines_of_object(vault, number):
    kind = vault.kind(number)
    if kind == "blob":
        return lines_of_blob(vault, number)
    if kind == "tree":
        return lines_of_tree(vault, number)
    return lines_of_commit(vault, number)


def lines_of_blob(vault, number):
    pieces = text_of(vault, number).split("\n")
    many = len(pieces)
    return [f"{number} blob {many}"] + ["|" + piece for piece in pieces]


def lines_of_tree(vault, number):
    words = [f"{name}={entry}" for name, entry in entries_of(vault, number)]
    return [" ".join([f"{number} tree"] + words)]


def lines_of_commit(vault, number):
    found = commit_of(vault, number)
    top = found[0]
    parents = ",".join([str(parent) for parent in found[1]]) if found[1] else "-"
    time = found[2]
    return [f"{number} commit {top} {parents} {time}", "|" + found[3]]


def is_number(word):
    if not 1 <= len(word) <= MOST_FIGURES:
        return False
    if word[0] == "0" and word != "0":
        return False
    return all([figure in FIGURES for figure in word])


class Reader:
    # Told has the numbers that are known and those of the objects read so far; line is the one read last, from 1 on.
    def __init__(self, vault, lines, known):
        self.vault = vault
        self.lines = lines
        self.told = dict(known)
        self.line = 0

    def has_more(self):
        return self.line < len(self.lines)

    def read_object(self):
        words = self.read_line().split(" ")
        number = self.number_in(words[0])
        if number in self.told:
            raise BadPack(self.line)
        self.told[number] = self.put_object(words[1:])

    def put_object(self, words):
        kind = words[0] if words else ""
        if kind == "blob" and len(words) == 2:
            return self.put_blob(words[1])
        if kind == "tree":
            return self.put_tree(words[1:])
        if kind == "commit" and len(words) == 4:
            return self.put_commit(words[1], words[2], words[3])
        raise BadPack(self.line)

    def put_blob(self, word):
        many = self.number_in(word)
        if many == 0:
            raise BadPack(self.line)
        return blob(self.vault, "\n".join([self.read_piece() for place in range(many)]))

    def put_tree(self, words):
        entries = [self.entry_in(word) for word in words]
        try:
            return tree(self.vault, entries)
        except (BadTree, NoObject):
            raise BadPack(self.line) from None

    def put_commit(self, top_word, parents_word, time_word):
        top = self.named_in(top_word)
        parents = [] if parents_word == "-" else [self.named_in(word) for word in parents_word.split(",")]
        time = self.number_in(time_word)
        # Ahead of the message, whose line may be wrong too but comes later.
        try:
            refuse_wrong_commit(self.vault, top, parents, time, "")
        except (BadCommit, NoObject):
            raise BadPack(self.line) from None
        return commit(self.vault, top, parents, time, self.read_piece())

    def read_line(self):
        self.line += 1
        if self.line > len(self.lines):
            raise BadPack(self.line)
        return self.lines[self.line - 1]

    def read_piece(self):
        line = self.read_line()
        if not line.startswith("|"):
            raise BadPack(self.line)
        return line[1:]

    def entry_in(self, word):
        parts = word.partition("=")
        return (parts[0], self.named_in(parts[2]))

    def number_in(self, word):
        if not is_number(word):
            raise BadPack(self.line)
        return int(word)

    def named_in(self, word):
        number = self.number_in(word)
        if number not in self.told:
            raise BadPack(self.line)
        return self.told[number]
