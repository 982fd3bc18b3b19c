"""The forms of the lines that a desk carries out."""

from latelands.machines import DELAYED_SORTS, PLAIN_SORTS

DIGITS = "0123456789"
MOST_DIGITS = 4


def words_of(line):
    """The words of any value that is a line of one of the forms, or None; all behind `row ` is one word."""
    if not isinstance(line, str):
        return None
    words = line.split(" ")
    if words[0] == "row":
        return ["row", line[len("row "):]] if len(words) > 1 else None
    if "" in words or words[0] not in FORMS:
        return None
    form = FORMS[words[0]]
    return words if form(words[1:]) else None


def is_number(word):
    """Whether a word is an integer in decimal digits, without leading zeros, and not too long."""
    if not 1 <= len(word) <= MOST_DIGITS or not all([letter in DIGITS for letter in word]):
        return False
    return len(word) == 1 or word[0] != "0"


def is_nothing(words):
    return len(words) == 0


def is_one_word(words):
    return len(words) == 1


def are_two_or_more(words):
    return len(words) > 1


def are_numbers(words):
    return all([is_number(word) for word in words])


def is_one_number(words):
    return len(words) == 1 and are_numbers(words)


def is_at_most_one_number(words):
    return len(words) <= 1 and are_numbers(words)


def are_numbers_or_least(words):
    return words == ["least"] or are_numbers(words)


def is_kind(words):
    """Whether these words tell a sort, a name, be it right or not, and a delay if the sort has one."""
    if words[:1] == [] or words[0] not in DELAYED_SORTS + PLAIN_SORTS:
        return False
    if words[0] in DELAYED_SORTS:
        return len(words) == 3 and is_number(words[2])
    return len(words) == 2


# For the first word of each line, but for `row`, what the words behind it must be.
FORMS = {
    "late": is_one_number, "width": is_one_number, "kind": is_kind, "drop": is_nothing, "alike": are_two_or_more,
    "code": is_nothing, "list": is_nothing, "bad": is_nothing, "judge": are_numbers, "shut": is_nothing,
    "wait": are_numbers_or_least, "registers": is_nothing, "mend": is_nothing, "go": is_at_most_one_number,
    "break": is_nothing, "undo": is_nothing, "value": is_one_word, "way": is_nothing,
}
