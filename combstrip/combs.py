"""What a comb may be called and which teeth it may have."""

from combstrip.sizes import MOST_NAME, MOST_TOOTH


def is_name(text):
    if not 1 <= len(text) <= MOST_NAME:
        return False
    # Not islower: it lets figures and blanks by as long as one small letter is there.
    return all([is_small_letter(sign) for sign in text])


def is_small_letter(sign):
    return "a" <= sign <= "z"


def are_teeth(teeth):
    if 0 not in teeth:
        return False
    if len(set(teeth)) != len(teeth):
        return False
    return all([0 <= tooth <= MOST_TOOTH for tooth in teeth])
