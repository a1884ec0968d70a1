"""Lines that a desk is told: their forms, and what is said of histories and numbers."""

from ownback.errors import BadText
from ownback.settings import FIGURES, is_word

MOST_FIGURES = 6
NOTHING = "."
NUMBER = "n"
# By first word what follows, a sign for each word: a number or a word. kinds and like hang on more than this word.
FORMS = {
    "do": "nw",
    "back": "n",
    "keep": "",
    "fold": "",
    "cut": "n",
    "loose": "",
    "board": "",
    "stand": "",
    "kept": "",
    "alike": "",
    "nth": "n",
    "last": "",
    "cost": "",
    "grows": "",
    "clash": "",
    "traces": "",
}


def is_told_number(word):
    if not 1 <= len(word) <= MOST_FIGURES or not all([sign in FIGURES for sign in word]):
        return False
    return word[0] != "0" or word == "0"


def form_of(words, hands):
    """The form of what has to stand behind the first of these words, None if nothing can."""
    if words[0] == "kinds":
        return NUMBER * hands
    if words[0] == "like":
        return "nw" * (len(words) // 2) if len(words) > 1 else None
    return FORMS.get(words[0])


def has_form(words, form):
    if len(words) != len(form):
        return False
    return all([is_told_number(word) if sign == NUMBER else is_word(word) for word, sign in zip(words, form)])


def words_told(line, hands):
    """The first word of a line, and what is told behind it: numbers and words; nothing for the history of none."""
    if not isinstance(line, str):
        raise BadText(0)
    words = line.split(" ")
    if words == ["like", NOTHING]:
        return "like", ()
    form = form_of(words, hands)
    if form is None or not has_form(words[1:], form):
        raise BadText(0)
    return words[0], tuple([int(word) if sign == NUMBER else word for word, sign in zip(words[1:], form)])


def joined(words):
    """What is said in these words."""
    return " ".join(words) if words else NOTHING


def parts_said(parts):
    return joined([str(part) for part in parts])


def history_said(history, deeds):
    """deeds: by deed its word."""
    words = []
    for hand, deed in history:
        words.extend([str(hand), deeds[deed]])
    return joined(words)
