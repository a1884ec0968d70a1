"""Settings: machines with words for their boards and deeds, and their texts."""

from ownback.checks import is_sequence
from ownback.errors import BadMachine, BadText, Refused
from ownback.machines import BOARDS, DEEDS, check_machine

LETTERS = "abcdefghijklmnopqrstuvwxyz"
FIGURES = "0123456789"
LONGEST = 12


def is_word(value):
    if not isinstance(value, str) or not 1 <= len(value) <= LONGEST:
        return False
    return value[0] in LETTERS and all([sign in LETTERS + FIGURES for sign in value])


def are_words(value):
    """Whether a value is words, no two of them alike."""
    return is_sequence(value) and all([is_word(word) for word in value]) and len(set(value)) == len(value)


def as_setting(value):
    """Any value as a setting, None if it is none."""
    if not is_sequence(value) or len(value) != 3:
        return None
    try:
        machine = check_machine(value[0])
    except BadMachine:
        return None
    boards, deeds = value[1], value[2]
    if not are_words(boards) or not are_words(deeds):
        return None
    if len(boards) != len(machine[1][0]) or len(deeds) != len(machine[1]):
        return None
    return machine, tuple(boards), tuple(deeds)


def check_setting(value):
    setting = as_setting(value)
    if setting is None:
        raise Refused(value)
    return setting


def write_setting(setting):
    (start, maps), boards, deeds = check_setting(setting)
    lines = [["boards"] + list(boards), ["start", boards[start]]]
    for word, moves in zip(deeds, maps):
        lines.append(["deed", word] + [boards[board] for board in moves])
    return "\n".join([" ".join(words) for words in lines])


class Reading:
    """A text that is read line by line: what its lines tell so far."""

    def __init__(self):
        self.boards = ()
        self.start = None
        self.deeds = []
        self.maps = []

    def takes(self, words):
        """Whether the words of the next line may stand there; if so, they are taken."""
        if not self.boards:
            return self.takes_boards(words)
        if self.start is None:
            return self.takes_start(words)
        return self.takes_deed(words)

    def takes_boards(self, words):
        boards = words[1:]
        if words[0] != "boards" or not 1 <= len(boards) <= BOARDS or not are_words(boards):
            return False
        self.boards = tuple(boards)
        return True

    def takes_start(self, words):
        if len(words) != 2 or words[0] != "start" or words[1] not in self.boards:
            return False
        self.start = self.boards.index(words[1])
        return True

    def takes_deed(self, words):
        if len(words) != len(self.boards) + 2 or words[0] != "deed" or len(self.deeds) == DEEDS:
            return False
        if not are_words(self.deeds + [words[1]]) or not all([word in self.boards for word in words[2:]]):
            return False
        self.deeds.append(words[1])
        self.maps.append(tuple([self.boards.index(word) for word in words[2:]]))
        return True


def read_setting(text):
    if not isinstance(text, str):
        raise BadText(0)
    reading = Reading()
    lines = text.split("\n")
    for number, line in enumerate(lines, start=1):
        if not reading.takes(line.split(" ")):
            raise BadText(number)
    if not reading.deeds:
        raise BadText(len(lines) + 1)
    return (reading.start, tuple(reading.maps)), reading.boards, tuple(reading.deeds)
