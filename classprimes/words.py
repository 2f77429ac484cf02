"""The words of texts, and where they stand."""

DIGITS = "0123456789"
LETTERS = "abcdefghijklmnopqrstuvwxyz"
MARKS = "+-*^()[]"
KEY_WORDS = ("xx", "xy", "yy", "first")


def words_of(text, low, high):
    """The words of the text from the place low to the place high, as triples of kind, word and place.

    The last one is of the kind "end", at high. What stands in no text is of the kind "none".
    """
    found = []
    place = low
    while place < high:
        if text[place] == " ":
            place += 1
        else:
            word = word_at(text, place, high)
            found.append((kind_of_word(word), word, place))
            place += len(word)
    found.append(("end", "", high))
    return found


def word_at(text, place, high):
    """The word from the place on, or the sign there, if it stands in no word."""
    signs = signs_behind(text[place])
    end = place + 1
    while end < high and text[end] in signs:
        end += 1
    return text[place:end]


def signs_behind(sign):
    """The signs with which a word goes on that begins with this one."""
    if sign in DIGITS:
        return DIGITS
    return LETTERS + DIGITS if sign in LETTERS else ""


def kind_of_word(word):
    """Of a key word and of a mark the word itself."""
    if word[0] in DIGITS:
        return "number" if len(word) <= 20 else "none"
    if word in KEY_WORDS:
        return word
    if word[0] in LETTERS:
        return "name" if len(word) <= 12 else "none"
    return word if word in MARKS else "none"


def is_name(text):
    """Whether the text is a name, without blanks."""
    return [(kind, word) for kind, word, _ in words_of(text, 0, len(text))][:-1] == [("name", text)]
