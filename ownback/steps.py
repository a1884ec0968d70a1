"""Unseen steps: letters exchanged, deeds put in place of others, and the table stays as it is."""

from ownback.antimatroid import all_histories
from ownback.checks import is_below, is_sequence
from ownback.errors import Refused
from ownback.histories import check_history, check_two
from ownback.machines import check_machine
from ownback.tables import table_behind, table_of


def exchanged(history, at):
    """All is checked, here and below."""
    return history[:at] + (history[at + 1], history[at]) + history[at + 2:]


def with_put(history, at, deed):
    return history[:at] + ((history[at][0], deed),) + history[at + 1:]


def behind_step(machine, history, step):
    """The history behind a step, seen or not; None for any value that is no step of it."""
    if not is_sequence(step):
        return None
    if len(step) == 2 and step[0] == "exchange" and is_below(step[1], len(history) - 1):
        at = step[1]
        return exchanged(history, at) if history[at][0] != history[at + 1][0] else None
    if len(step) == 3 and step[0] == "put" and is_below(step[1], len(history)) and is_below(step[2], len(machine[1])):
        at, deed = step[1], step[2]
        return with_put(history, at, deed) if history[at][1] != deed else None
    return None


def behind_unseen(machine, table, history, step):
    """The history behind an unseen step of one of this table; None for any value that is no such step."""
    behind = behind_step(machine, history, step)
    if behind is None or table_behind(machine, len(table[0]), behind) != table:
        return None
    return behind


def unseen_steps(machine, hands, history):
    machine = check_machine(machine)
    history = check_history(machine, hands, history)
    table = table_behind(machine, hands, history)
    steps = [("exchange", at) for at in range(len(history) - 1)]
    steps.extend([("put", at, deed) for at in range(len(history)) for deed in range(len(machine[1]))])
    return tuple([step for step in steps if behind_unseen(machine, table, history, step) is not None])


def stepped(machine, hands, history, step):
    machine = check_machine(machine)
    history = check_history(machine, hands, history)
    behind = behind_unseen(machine, table_behind(machine, hands, history), history, step)
    if behind is None:
        raise Refused(step)
    return behind


def are_alike(machine, hands, one, other):
    return table_behind(machine, hands, one) == table_behind(machine, hands, other)


def numbered(history):
    """By letter (hand, how many of the hand's stand ahead): the same name for the same one in alike histories."""
    many = {}
    names = []
    for hand, _ in history:
        names.append((hand, many.get(hand, 0)))
        many[hand] = many.get(hand, 0) + 1
    return names


def unlike_things(one, other):
    """How many pairs of letters stand in the other order, and how many deeds are unlike."""
    places = {name: place for place, name in enumerate(numbered(other))}
    row = [places[name] for name in numbered(one)]
    crossed = sum([1 for at, place in enumerate(row) for ahead in row[:at] if ahead > place])
    return crossed + sum([1 for letter, place in zip(one, row) if letter != other[place]])


def fewest_steps(machine, hands, one, other):
    machine, one, other = check_two(machine, hands, one, other)
    return unlike_things(one, other) if are_alike(machine, hands, one, other) else None


def way_between(one, other):
    """Letter by letter, from the end on: what is to be there is put in its hand's last place, and moved behind all."""
    steps = []
    for end in range(len(other) - 1, -1, -1):
        hand, deed = other[end]
        at = max([place for place in range(end + 1) if one[place][0] == hand])
        if one[at][1] != deed:
            steps.append(("put", at, deed))
            one = with_put(one, at, deed)
        for place in range(at, end):
            steps.append(("exchange", place))
            one = exchanged(one, place)
    return tuple(steps)


def some_way(machine, hands, one, other):
    machine, one, other = check_two(machine, hands, one, other)
    return way_between(one, other) if are_alike(machine, hands, one, other) else None


def way_holds(machine, hands, one, other, value):
    machine, one, other = check_two(machine, hands, one, other)
    if not is_sequence(value):
        return False
    table = table_behind(machine, hands, one)
    for step in value:
        one = behind_unseen(machine, table, one, step)
        if one is None:
            return False
    return one == other


def all_led(machine, hands, history, *, most):
    return all_histories(machine, table_of(machine, hands, history), most=most)
