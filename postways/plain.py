"""Plain values that every module judges alike: words, counts, ascending lists."""

ALPHABET = "abcdefghijklmnopqrstuvwxyz"


def is_word(value):
    """Whether any object is a string of one to eight letters from a to z."""
    if not isinstance(value, str):
        return False
    return 1 <= len(value) <= 8 and all([sign in ALPHABET for sign in value])


def is_count(value):
    """Whether any object is an integer of at least 0."""
    # Python takes True and False for integers, the document does not.
    return isinstance(value, int) and not isinstance(value, bool) and value >= 0


def are_unlike(words):
    """Whether no word stands twice in a list."""
    return len(set(words)) == len(words)


def is_ascending(members):
    """Whether each member of a list is less than the next one."""
    return all([members[k] < members[k + 1] for k in range(len(members) - 1)])


def is_part_of(value, known):
    """Whether any object is an ascending list of members of a list."""
    if not isinstance(value, list):
        return False
    # The members are looked for first: only what stands in the list is sure to be comparable.
    return all([member in known for member in value]) and is_ascending(value)


def is_pair_of(value, known):
    """Whether any object is a tuple of two members of a list."""
    return isinstance(value, tuple) and len(value) == 2 and value[0] in known and value[1] in known
