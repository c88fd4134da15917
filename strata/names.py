"""What a name is, in which order names stand, and how a path is made of them."""

LONGEST_NAME = 12


def is_name_sign(sign):
    # Ranges are written out because isalnum also takes letters and figures of other scripts.
    if "a" <= sign <= "z" or "A" <= sign <= "Z" or "0" <= sign <= "9":
        return True
    return sign in "._-"


def is_name(text):
    if not 1 <= len(text) <= LONGEST_NAME:
        return False
    if text == "." or text == "..":
        return False
    return all([is_name_sign(sign) for sign in text])


def names_rise(names):
    # Python compares texts as names stand: by their signs' numbers, the shorter ahead of one that begins alike.
    return all([one < other for one, other in zip(names, names[1:])])


def joined(path, name):
    return name if path == "" else path + "/" + name
