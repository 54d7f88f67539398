"""Words, texts (lists of words), and the lines that texts are taken from."""

from redraft.errors import NoWord, TooLong

LONGEST = 40
MOST = 120


def is_sign(sign):
    """Tell whether a word may have this sign."""
    # Two ranges, because the sign between "$" and "&" is in no word.
    return "!" <= sign <= "$" or "&" <= sign <= "~"


def is_word(word):
    """Tell whether this is a word."""
    if not isinstance(word, str):
        return False
    return 1 <= len(word) <= LONGEST and all(is_sign(sign) for sign in word)


def check_words(words):
    """Refuse what is no list of words."""
    if not isinstance(words, list):
        raise NoWord("words are handed in as a list")
    for at, word in enumerate(words):
        if not is_word(word):
            raise NoWord(f"item {at} of the list is no word")


def check_length(words):
    """Refuse more words than a text may have."""
    if len(words) > MOST:
        raise TooLong(f"a text has at most {MOST} words, not {len(words)}")


def check_text(words):
    """Refuse what is no text, ahead of a text that is too long."""
    check_words(words)
    check_length(words)


def parted(line):
    """Take a line apart into the list of its words."""
    words = line.split()
    check_text(words)
    return words


def joined(words):
    """Put a list of words together into a line."""
    check_text(words)
    return " ".join(words)
