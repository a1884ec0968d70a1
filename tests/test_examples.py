"""The examples of the document, as they stand there."""

import doctest
import pathlib
import unittest

PRESSES = '''
    >>> from ownback.forms import check_press, healing, press_at, press_octets, read_presses, write_presses
    >>> press_octets(("deed", 1, 5)), press_octets(["back", 3]), check_press(["deed", 0, 0])
    ((1, 1, 5), (0, 3), ('deed', 0, 0))
    >>> write_presses([("deed", 0, 2), ("back", 0)]), press_at((9, 0, 2, 7), 1)
    ((1, 0, 2, 0, 0), (('back', 2), 3))
    >>> read_presses((0, 3, 1, 2, 4, 1)), healing((0, 3, 1, 2, 4, 1)), healing((0, 3))
    (((('back', 3), ('deed', 2, 4)), 5), (0, 0), ())
'''
MACHINES = '''
    >>> from ownback.machines import boards_come, come_by, led, machine_octets, names_come, trimmed
    >>> machine = (1, ((0, 0, 2, 3), (1, 2, 0, 0)))
    >>> led(machine, 1, (0, 1, 1)), boards_come(machine), come_by(machine, 2), come_by(machine, 3), names_come(machine)
    (2, (0, 1, 2), (1,), None, (1, 0, 2))
    >>> trimmed(machine), machine_octets(machine)
    ((0, ((1, 1, 2), (2, 0, 1))), (4, 1, 2, 0, 0, 2, 3, 1, 2, 0, 0))
'''
LOTS = '''
    >>> from ownback.lots import commute_at, doing, done_pairs, kinds_on, led_lot, like_on, unlike_at
    >>> machine = (0, ((0, 0, 2), (1, 0, 2), (0, 1, 2)))
    >>> led_lot(machine, (0, 1), 0), like_on(machine, (1, 2), 1), kinds_on(machine, (1, 2)), unlike_at(machine, 0, 1)
    ((0,), (0, 1), ((0, 1), (2,)), (0,))
    >>> doing(machine, ((1, 0), (2, 2))), done_pairs(machine, (0, 1), 1), [commute_at(machine, 0, 1, deed) for deed in (0, 2)]
    ((0, 1), ((0, 1), (1, 0)), [False, True])
'''
LOOKS = '''
    >>> from ownback.looks import alike_boards, least_machine, look_alike, parting_deeds, parting_row
    >>> ring = (0, ((1, 2, 3, 0),))
    >>> alike_boards(ring, (0, 1, 0, 1)), least_machine(ring, (0, 1, 0, 1)), parting_deeds(ring, (0, 0, 0, 1), 0, 1)
    ((0, 1, 0, 1), ((0, ((1, 0),)), (0, 1), (0, 1, 0, 1)), (0, 0))
    >>> light = (0, ((1, 0),))
    >>> look_alike(ring, (0, 1, 0, 1), light, (0, 1)), parting_row(ring, (0, 0, 0, 1), light, (0, 1))
    (True, (0,))
'''
HISTORIES = '''
    >>> from ownback.histories import alike_for, beginning, boards_shown, history_of, pressed, struck
    >>> lamp = (0, ((1, 0), (1, 1)))
    >>> presses = [("deed", 0, 0), ("deed", 1, 1), ("deed", 0, 0), ("back", 1), ("back", 0)]
    >>> [history_of(lamp, 2, presses), boards_shown(lamp, 2, presses), struck(lamp, 2, presses)]
    [((0, 0),), (0, 1, 1, 0, 0, 1), ((1, 3), (2, 4))]
    >>> beginning(lamp, 2, ((1, 1), (0, 0), (1, 0)), (1, 1)), pressed(lamp, 2, ((1, 1), (0, 0)), ("back", 1))
    (((1, 1), (0, 0)), ((0, 0),))
    >>> one, other = ((0, 0), (0, 0), (0, 1)), ((0, 1), (0, 1), (0, 1))
    >>> [alike_for(lamp, 1, one, other, many, most=99) for many in (0, 1)]
    [True, False]
'''
TABLES = '''
    >>> from ownback.tables import alike, entry, part_of, place_of, rim, table_of, top_board, vectors, with_back, with_deed
    >>> machine = (0, ((1, 2, 2), (2, 2, 0)))
    >>> told = table_of(machine, 2, ((0, 0), (1, 1), (0, 1)))
    >>> vectors((1, 2)), place_of((2, 1), (1, 1)), told, top_board(told), entry(told, (2, 0))
    (((0, 0), (0, 1), (0, 2), (1, 0), (1, 1), (1, 2)), 3, ((2, 1), (0, 2, 1, 2, 2, 0)), 0, 2)
    >>> rim(told, 0), with_back(told, 1), part_of(told, (1, 1)), with_deed(machine, ((1, 0), (0, 1)), 1, 0)
    ((0, 1, 2), ((2, 0), (0, 1, 2)), ((1, 1), (0, 2, 1, 2)), ((1, 1), (0, 1, 1, 2)))
    >>> alike(machine, 2, ((0, 0), (1, 1)), ((1, 1), (0, 0))), alike(machine, 2, ((0, 1), (0, 1), (1, 0)), ((1, 0), (0, 1), (0, 1)))
    (True, False)
'''
LASTS = '''
    >>> from ownback.lasts import barring, bars, is_told, last_deeds, lasts, left_over
    >>> lamp, table, other = (0, ((1, 0), (1, 1))), ((1, 1), (0, 1, 1, 1)), ((1, 1), (0, 0, 1, 1))
    >>> lasts(lamp, table), last_deeds(lamp, table, 0), is_told(lamp, table)
    (((0, 1), (1, 1)), (1,), True)
    >>> left_over(lamp, other), barring(lamp, other), bars(lamp, other, [1, 1]), bars(lamp, other, [0, 1])
    ((0, 1), (0, 1), False, True)
'''
ALL_HISTORIES = '''
    >>> from ownback.antimatroid import all_histories, beginnings, nth_history, orders_many, step_deeds
    >>> from ownback.ways import greatest_way, least_way, way_history, way_of, way_order, ways_many
    >>> lamp, table = (0, ((1, 0), (1, 1))), ((1, 1), (0, 1, 1, 1))
    >>> all_histories(lamp, table, most=9)
    (((0, 0), (1, 1)), ((0, 1), (1, 1)), ((1, 0), (0, 1)), ((1, 1), (0, 1)))
    >>> orders_many(lamp, table), nth_history(lamp, table, 2), step_deeds(lamp, table, (0, 0), 0), beginnings(lamp, table)
    (2, ((1, 0), (0, 1)), (0, 1), ((0, 0), (0, 1), (1, 0), (1, 1)))
    >>> least_way(lamp, table), greatest_way(lamp, table), ways_many((0,), (1,)), way_history(lamp, table, (1,))
    ((0,), (1,), 2, ((1, 0), (0, 1)))
    >>> way_of((1, 0, 1, 0)), way_order((1, 2), 3)
    ((1, 2), (1, 0, 1, 0, 1))
'''
STEPS = '''
    >>> from ownback.steps import all_led, fewest_steps, some_way, stepped, unseen_steps, way_holds
    >>> machine, one, other = (0, ((1, 2, 2), (2, 2, 0))), ((1, 0), (1, 1), (0, 0)), ((0, 0), (1, 0), (1, 0))
    >>> unseen_steps(machine, 2, one), stepped(machine, 2, one, ["put", 1, 0]), fewest_steps(machine, 2, one, other)
    ((('put', 1, 0),), ((1, 0), (1, 0), (0, 0)), 3)
    >>> some_way(machine, 2, one, other), way_holds(machine, 2, one, other, [("exchange", 1)])
    ((('put', 1, 0), ('exchange', 1), ('exchange', 0)), False)
    >>> all_led(machine, 2, one, most=9)
    (((0, 0), (1, 0), (1, 0)), ((1, 0), (0, 0), (1, 0)), ((1, 0), (1, 0), (0, 0)), ((1, 0), (1, 1), (0, 0)))
    >>> fewest_steps(machine, 2, one, ((1, 0), (0, 0), (1, 1))), unseen_steps((0, ((0,),)), 1, ((0, 0),))
    (None, ())
'''
NORMAL = '''
    >>> from ownback.normal import is_normal, normal, normal_of, renewed
    >>> machine = (0, ((1, 2, 2), (2, 2, 0)))
    >>> normal_of(machine, 2, ((1, 1), (0, 0))), normal(machine, ((1, 1), (0, 2, 1, 2))), is_normal(machine, 2, ((0, 0), (1, 1)))
    (((0, 0), (1, 1)), ((0, 0), (1, 1)), True)
    >>> normal_of(machine, 3, ((2, 0), (0, 1), (0, 1))), normal_of(machine, 2, ((0, 1), (1, 0), (0, 0)))
    (((0, 1), (2, 0), (0, 1)), ((0, 1), (0, 0), (1, 0)))
    >>> renewed(machine, 2, ((0, 1), (1, 0)), ("deed", 0, 0)), renewed(machine, 2, ((0, 1), (1, 0)), ("back", 0))
    (((0, 1), (0, 0), (1, 0)), ((1, 0),))
'''
FINITE = '''
    >>> from ownback.finite import corner_boards, corner_pairs, finite_machine, parting_history, situations, state_behind
    >>> lamp = (0, ((1, 0), (1, 1)))
    >>> corner_boards(lamp, 2, ((0, 0), (1, 1)), (0,)), corner_pairs(lamp, 2, ((0, 0), (1, 1)), 0, ())
    ((1,), ((0, 1), (1, 1)))
    >>> toggle = (0, ((1, 0),))
    >>> finite = finite_machine(toggle, 2, most=99)
    >>> situations(toggle, 2, most=99)[0], finite
    (7, (2, 0, ((((0, 0), 0), ((1, 0), 1)), (((1, 0), 1),))))
    >>> situations(lamp, 2, most=99)[0], finite_machine(lamp, 2, most=99)[0]
    (14, 9)
    >>> state_behind(finite, ((0, 0), (1, 0))), state_behind(finite, ((1, 0), (0, 0))), parting_history(finite, 0, 1)
    (1, None, ((0, 0),))
'''
COUNTS = '''
    >>> from ownback.counts import count, count_matrix, count_table, recurrence, totals
    >>> light = (0, ((1, 0), (0, 1)))
    >>> count(light, (2, 1), most=99), count_table(light, (1, 2), most=99), totals(light, 2, 5, most=99)
    (8, (1, 2, 4, 2, 4, 8), (1, 4, 12, 32, 80, 192))
    >>> count_matrix(light, 2, most=99), recurrence(light, 2, most=99), recurrence((0, ((1, 0),)), 1, most=99)
    ((((2, 0), (0, 0)), ((0, 2), (0, 2))), (4, -4), (1,))
'''
GROWTH = '''
    >>> from ownback.growth import bits_in, counted, growth, limited, loops, period, rate_holds, rate_paper, rate_parts
    >>> light = (2, 0, ((((0, 0), 0), ((1, 0), 1)), (((1, 0), 1),)))
    >>> counted(light, 4), loops(light), period(light), growth(light), rate_parts(light, 100), bits_in(light, 9)
    ((1, 2, 3, 4, 5), ((0,), (1,)), 1, ('power', 1), 100, 0)
    >>> gold = (2, 0, ((((0, 0), 0), ((1, 0), 1)), (((0, 0), 0),)))
    >>> counted(gold, 6), growth(gold), rate_parts(gold, 100), bits_in(gold, 10), growth(limited(gold, (None, 2)))
    ((1, 2, 3, 5, 8, 13, 21), ('multiplied',), 161, 6, ('power', 2))
    >>> rate_paper(gold, 8, 5)[0], rate_holds(gold, 3, 2, ("reached", [2, 1])), rate_holds(gold, 2, 1, ("below", (3, 2)))
    ('reached', True, True)
    >>> turn = (3, 0, ((((0, 0), 1),), (((0, 1), 2), ((1, 0), 0)), ()))
    >>> counted(turn, 5), growth(turn), growth(limited(turn, [1])), period(turn)
    ((1, 1, 2, 1, 2, 1), ('bounded', 2), ('bounded', 1), 2)
'''
COST = '''
    >>> from ownback.cost import clash, costs_nothing, kinds_beside, rims_hold, two_of_one_rim
    >>> light, setting = (0, ((1, 0),)), (0, ((0, 0, 0), (1, 2, 1)))
    >>> costs_nothing(light), kinds_beside(light, (2, 3), most=99), kinds_beside((0, ((0, 1), (1, 0))), (1, 1), most=99)
    (True, (1, 1), (4, 4))
    >>> clash(setting), kinds_beside(setting, (1, 1), most=99)
    (((), 0, 1), (6, 4))
    >>> two_of_one_rim(setting), rims_hold(setting, 2, two_of_one_rim(setting))
    ((((0, 0), (1, 1)), ((1, 1), (0, 0))), True)
'''
DESKS = '''
    >>> from ownback.desks import desk_apart, desk_kinds, is_right, keeper_desk
    >>> from ownback.keeper import Keeper
    >>> setting = (0, ((0, 0, 0), (1, 2, 1)))
    >>> keeper = Keeper(setting, 2)
    >>> [keeper.take(press) for press in (("deed", 1, 0), ("deed", 0, 1), ("back", 1))], keeper.board_now(), keeper.standing()
    ([((1, 0),), ((1, 0), (0, 1)), ((0, 1),)], 1, (1, 0))
    >>> desk = keeper_desk(setting, 2, 1, most=99)
    >>> len(desk[1]), desk[1][0], is_right(setting, 2, desk, 1, most=99)
    (5, (0, ((1, 2), (3, 4)), (0, 0)), True)
    >>> wrong = (0, ((0, ((0, 1),) * 2, (0, 0)), (1, ((0, 1),) * 2, (0, 0))))
    >>> len(desk_apart(setting, 2, wrong, 2, most=99)), desk_kinds(setting, 1, (0, ((0, ((0, 0),), (0,)),)), 0, most=9)
    (2, (((0,), 0, ()),))
'''
PARTING = '''
    >>> from ownback.parting import fewest_presses, nearest, parted_at, parting, plan, plan_holds, plan_presses
    >>> machine = (0, ((1, 2, 2), (2, 2, 0)))
    >>> one, other = ((1, 1), (0, 0), (0, 0)), ((1, 0), (0, 0), (0, 0))
    >>> nearest(machine, 2, one, other), parting(machine, 2, one, other), fewest_presses(machine, 2, one, one)
    (((0, 1),), (('back', 0), ('back', 0)), None)
    >>> parted_at(machine, 2, one, other, [("back", 0), ("deed", 1, 0), ("back", 0), ("back", 1)]), parting(machine, 2, one, ())
    (4, ())
    >>> some = (((0, 0), (1, 1)), ((0, 1), (1, 0)), ((0, 1), (1, 1)))
    >>> plan(machine, 2, some), plan_presses(machine, 2, some)
    (((0, ('are', (2,))), (2, ('back', 0, ((1, ('are', (1,))), (2, ('are', (0,))))))), 1)
    >>> plan_presses(machine, 2, (((0, 0), (1, 0)), some[0], some[1])), plan_holds(machine, 2, some[:1], [(2, ["are", [0]])])
    (None, True)
'''
OVERVIEW = '''
    >>> from ownback.picture import compare, price
    >>> from ownback.world import World
    >>> lamp = (0, ((1, 0), (0, 0)))
    >>> world = World(lamp, 2)
    >>> [world.take(press)[0] for press in (("deed", 0, 0), ("deed", 1, 1), ("back", 0), ("deed", 0, 0), ("back", 1))]
    [1, 0, 0, 1, 1]
    >>> compare(lamp, 2, ((0, 0), (1, 0)), ((1, 0), (0, 0))), compare(lamp, 2, ((0, 0), (1, 1)), ((0, 1), (1, 1)))
    (('alike', (('exchange', 0),)), ('apart', (('back', 1),)))
    >>> price(lamp, (2, 2), most=999)
    (38, 9, 6)
'''
FOLDING = '''
    >>> from ownback.folding import foldable, folded, settled_alike, window
    >>> lamp = (0, ((1, 0), (1, 1)))
    >>> [window(lamp, 2, ((1, 1), (0, 0)), (1, 0)), foldable(lamp, 2, ((1, 1), (0, 0)), (1, 0))]
    [((0, 1), (1, 0)), ((0, 0), (1, 0))]
    >>> folded(lamp, 2, ((1, 1), (0, 0)), (1, 0))
    ((1, ((1, 0), (1, 1))), ((1, 0),), (0, 0))
    >>> [foldable((0, ((1, 1, 2), (0, 2, 2))), 2, ((1, 0), (0, 1)), settled) for settled in ((1, 0), (1, 1))]
    [((0, 0),), ((0, 0), (0, 1), (1, 1))]
    >>> [settled_alike(lamp, 1, ((0, 0), (0, 1)), ((0, 1), (0, 1)), settled) for settled in ((0,), (2,))]
    [True, True]
'''
REDO = '''
    >>> from ownback.redo import Redoer, marked_kinds, marked_of, marked_parting
    >>> lamp = (0, ((1, 0), (1, 1)))
    >>> marked_of(lamp, 2, [("deed", 0, 1), ("back", 0), ("deed", 1, 0), ("again", 0)])
    (((0, 1), (1, 0)), (1, 1))
    >>> desk = Redoer(lamp, 2)
    >>> [desk.take(press) for press in (("deed", 0, 1), ("deed", 1, 0), ("back", 0))], desk.board_now()
    ([(((0, 0),), (1, 0)), (((0, 0), (1, 0)), (1, 1)), (((0, 0), (1, 0)), (0, 1))], 1)
    >>> marked_parting(lamp, 2, (((0, 0), (1, 0)), (0, 1)), (((0, 0), (1, 1)), (0, 1))), marked_kinds(lamp, (1, 1), most=99)
    ((('again', 0),), 8)
'''
TRACES = '''
    >>> from ownback.groups import blurs, commuting_boards, free_paper, same_boards
    >>> from ownback.traces import kinds_are_traces, trace_count, trace_paper, trace_polynomial, trace_steps, trace_totals, traces_paper
    >>> lamp, light, setting = (0, ((1, 0), (0, 0))), (0, ((1, 0), (0, 1))), (0, ((0, 0), (1, 1)))
    >>> same_boards(lamp, 0, 1), commuting_boards(lamp, 0, 1), blurs(lamp, 2), free_paper(lamp), free_paper(light)
    ((1,), (), (('alike', 0, 1, 1),), ('joined', 1, 0, 1), None)
    >>> trace_steps(light, 2, ((0, 0), (1, 1), (1, 0))), trace_paper(lamp, 2, ((0, 0), (1, 1)), ((1, 1), (0, 0)))
    ((((0, 0), (1, 1)), ((1, 0),)), ((0, 0), (1, 1)))
    >>> traces_paper(lamp, 1), kinds_are_traces(setting, 2), trace_polynomial(setting, 2), trace_totals(setting, 2, 3)
    ((((0, 0), (0, 0)), ((0, 0), (0, 1))), True, (1, -4, 2), (1, 4, 14, 48))
    >>> trace_count(setting, (1, 1)), trace_count(lamp, (2, 2)), trace_count(light, (1, 1, 1))
    (6, 52, 8)
'''
BOOKS = '''
    >>> from ownback.book import folded_octets, new_book, plain_book
    >>> light = (0, ((1, 0), (0, 1)))
    >>> book = new_book(light, 2)
    >>> [book.take(press) for press in (("deed", 1, 0), ("deed", 0, 1), ("back", 1), ("deed", 1, 1))], book.loose(), book.history
    ([1, 1, 0, 0], 11, ((0, 1), (1, 1)))
    >>> book.cut(7)
    >>> book.history, book.both_pages(), book.board_now()
    (((1, 0), (0, 1)), ((0, 0, 0, 1, 1, 0, 1, 0, 1), ()), 1)
    >>> book.fold()
    >>> book.history, book.both_pages()[1], folded_octets(light, 2, ((1, 0), (0, 1)))
    (((0, 1), (1, 0)), (1, 0, 2, 0, 1, 1, 0), (0, 0, 2, 0, 1, 1, 0))
    >>> from ownback.ranks import packed, rank_of, ranked, unpacked
    >>> rank_of(light, 2, ((1, 0), (0, 1)), most=99), ranked(light, (1, 1), 2, most=99), packed(light, 2, ((0, 1), (1, 1)), most=99)
    (2, ((0, 1), (1, 0)), (3,))
    >>> unpacked(light, (1, 1), (0,), most=99)
    ((0, 0), (1, 0))
'''
WHOLE = '''
    >>> from ownback.picture import compare, picture, price
    >>> from ownback.world import World
    >>> setting = (0, ((0, 0, 0), (1, 2, 1)))
    >>> picture(setting, 2, [("deed", 0, 1), ("deed", 1, 1), ("deed", 0, 0), ("back", 1)])
    (0, (2, 0), ((0, 1), (0, 0)))
    >>> compare(setting, 2, ((0, 1), (1, 1)), ((1, 1), (0, 1))), compare(setting, 2, ((0, 1), (1, 0)), ((1, 0), (0, 1)))
    (('alike', (('exchange', 0),)), ('apart', ()))
    >>> price(setting, (2, 2), most=999), price((0, ((1, 0),)), (5, 5), most=99)
    ((52, 16, 6), (1, 1, 0))
    >>> world = World(setting, 2)
    >>> world.take(("deed", 1, 0)), world.take(("deed", 0, 1)), world.take(("back", 1)), world.beside(((0, 0),))
    ((0, (0, 1), ((1, 0),)), (1, (1, 1), ((1, 0), (0, 1))), (1, (1, 0), ((0, 1),)), ('apart', ()))
'''
LINES = r'''
    >>> from ownback.desk import Desk
    >>> from ownback.settings import read_setting, write_setting
    >>> text = "boards off on\nstart off\ndeed flip on off\ndeed set on on"
    >>> read_setting(text), write_setting(((1, ((1, 0),)), ("a", "b2"), ("go",)))
    (((0, ((1, 0), (1, 1))), ('off', 'on'), ('flip', 'set')), 'boards a b2\nstart b2\ndeed go b2 a')
    >>> desk = Desk(text, 2)
    >>> [desk.say(line) for line in ("do 0 flip", "do 1 set", "back 0", "kept", "like 1 flip", "like 0 flip", "back 0")]
    ['on', 'on', 'on', '1 flip', 'alike 1', 'numbers', 'refused']
    >>> [desk.say(line) for line in ("loose", "keep", "do 0 flip", "fold", "cut 6", "stand", "clash", "traces")]
    ['8', '0', 'off', '7', 'off', '1 1', 'flip set', 'no']
'''
SEEN = '''
    >>> from ownback.seen import looks_shown, seen_alike, seen_count, seen_normal, seen_parting, seen_table
    >>> ring, looks = (0, ((1, 2, 3, 0), (0, 1, 2, 3))), (0, 1, 0, 1)
    >>> seen_table(ring, looks, 2, ((0, 0), (1, 0))), seen_alike(ring, looks, 2, ((0, 0), (1, 1)), ((1, 1), (0, 0)))
    (((1, 1), (0, 1, 1, 0)), True)
    >>> len(seen_parting(ring, looks, 2, ((0, 0), (1, 1)), ((0, 1), (1, 0)))), seen_normal(ring, looks, 2, ((1, 1), (0, 0)))
    (1, ((0, 0), (1, 1)))
    >>> looks_shown(ring, looks, 2, ((0, 0), (1, 1)), [("back", 0), ("deed", 0, 0)]), seen_count(ring, looks, (1, 1), most=99)
    ((1, 0, 1), 4)
    >>> seen_parting(ring, (0, 0, 0, 1), 1, ((0, 0),), ((0, 1),))
    (('deed', 0, 0), ('deed', 0, 0))
'''


class Examples(unittest.TestCase):

    def holds(self, text):
        test = doctest.DocTestParser().get_doctest(text, {}, "example", None, 0)
        told = []
        failed, tried = doctest.DocTestRunner(verbose=False).run(test, out=told.append)
        self.assertEqual(failed, 0, "".join(told))
        self.assertGreater(tried, 1)

    def test_presses(self):
        self.holds(PRESSES)

    def test_machines(self):
        self.holds(MACHINES)

    def test_lots(self):
        self.holds(LOTS)

    def test_looks(self):
        self.holds(LOOKS)

    def test_histories(self):
        self.holds(HISTORIES)

    def test_tables(self):
        self.holds(TABLES)

    def test_lasts(self):
        self.holds(LASTS)

    def test_all_histories(self):
        self.holds(ALL_HISTORIES)

    def test_steps(self):
        self.holds(STEPS)

    def test_normal(self):
        self.holds(NORMAL)

    def test_finite(self):
        self.holds(FINITE)

    def test_counts(self):
        self.holds(COUNTS)

    def test_growth(self):
        self.holds(GROWTH)

    def test_cost(self):
        self.holds(COST)

    def test_desks(self):
        self.holds(DESKS)

    def test_parting(self):
        self.holds(PARTING)

    def test_overview(self):
        self.holds(OVERVIEW)

    def test_folding(self):
        self.holds(FOLDING)

    def test_redo(self):
        self.holds(REDO)

    def test_traces(self):
        self.holds(TRACES)

    def test_books(self):
        self.holds(BOOKS)

    def test_whole(self):
        self.holds(WHOLE)

    def test_lines(self):
        self.holds(LINES)

    def test_seen(self):
        self.holds(SEEN)

    def test_readme(self):
        path = pathlib.Path(__file__).resolve().parent.parent / "README.md"
        self.holds(path.read_text(encoding="utf-8"))
