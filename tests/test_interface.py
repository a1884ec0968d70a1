import ast
import inspect
import importlib
import pathlib
import re
import unittest

PACKAGE = pathlib.Path(__file__).resolve().parent.parent / "ownback"
INTERFACE = {
    "errors": "OwnError BadOctets BadMachine BadHistory BadTable BadText Refused Broken TooGreat NoHand NoDeed NoBoard",
    "forms": "is_press(value) check_press(value) press_octets(press) write_presses(presses) press_at(octets,at) "
             "read_presses(octets) healing(octets)",
    "machines": "check_machine(value) board_count(machine) deed_count(machine) led(machine,board,deeds) "
                "boards_come(machine) come_by(machine,board) names_come(machine) trimmed(machine) "
                "same_but_names(machine,other) machine_octets(machine) machine_at(octets,at)",
    "lots": "led_lot(machine,lot,deed) like_on(machine,lot,deed) least_on(machine,lot,deed) kinds_on(machine,lot) "
            "unlike_at(machine,one,other) doing(machine,pairs) done_pairs(machine,lot,deed) "
            "commute_at(machine,board,one,other)",
    "looks": "check_looks(machine,looks) alike_boards(machine,looks) parting_deeds(machine,looks,one,other) "
             "least_machine(machine,looks) parting_row(machine,looks,other,others) "
             "look_alike(machine,looks,other,others)",
    "histories": "check_history(machine,hands,value) counts_of(hands,history) boards(machine,history) "
                 "board_of(machine,history) beginning(machine,hands,history,vector) "
                 "pressed(machine,hands,history,press) check_presses(machine,hands,presses) "
                 "history_of(machine,hands,presses) boards_shown(machine,hands,presses) "
                 "struck(machine,hands,presses) alike_for(machine,hands,one,other,many,*,most)",
    "tables": "vectors(counts) place_of(counts,vector) check_table(machine,value) entry(table,vector) top_board(table) "
              "part_of(table,vector) rim(table,hand) first_table(machine,hands) with_deed(machine,table,hand,deed) "
              "with_back(table,hand) table_of(machine,hands,history) alike(machine,hands,one,other)",
    "lasts": "last_deeds(machine,table,hand) lasts(machine,table) left_over(machine,table) is_told(machine,table) "
             "bars(machine,table,value) barring(machine,table)",
    "antimatroid": "step_deeds(machine,table,counts,hand) histories_many(machine,table) orders_many(machine,table) "
                   "nth_history(machine,table,number) all_histories(machine,table,*,most) "
                   "by_order(machine,table,order) is_order(machine,table,value) beginnings(machine,table)",
    "ways": "way_of(order) way_order(way,many) least_way(machine,table) greatest_way(machine,table) "
            "is_way(machine,table,value) way_history(machine,table,way) lower_way(one,other) upper_way(one,other) "
            "ways_many(low,high)",
    "steps": "unseen_steps(machine,hands,history) stepped(machine,hands,history,step) "
             "fewest_steps(machine,hands,one,other) some_way(machine,hands,one,other) "
             "way_holds(machine,hands,one,other,value) all_led(machine,hands,history,*,most)",
    "normal": "normal(machine,table) normal_of(machine,hands,history) is_normal(machine,hands,history) "
              "renewed(machine,hands,history,press)",
    "finite": "corner_boards(machine,hands,history,lot) corner_pairs(machine,hands,history,hand,lot) "
              "situations(machine,hands,*,most) finite_machine(machine,hands,*,most) check_words(value) "
              "state_behind(finite,history) parting_history(finite,one,other)",
    "counts": "count(machine,counts,*,most) count_table(machine,counts,*,most) count_matrix(machine,hands,*,most) "
              "totals(machine,hands,last,*,most) recurrence(machine,hands,*,most)",
    "ranks": "rank_of(machine,hands,history,*,most) ranked(machine,counts,number,*,most) "
             "fewest_octets(machine,counts,*,most) packed(machine,hands,history,*,most) "
             "unpacked(machine,counts,octets,*,most)",
    "growth": "counted(words,last) come_to(words) loops(words) period(words) growth(words) limited(words,limits) "
              "rate_paper(words,top,bottom) rate_holds(words,top,bottom,value) rate_parts(words,bottom) "
              "bits_in(words,length)",
    "cost": "kinds_beside(machine,counts,*,most) clash(machine) costs_nothing(machine) two_of_one_rim(machine) "
            "rims_hold(machine,hands,value)",
    "keeper": "Keeper(machine,hands)",
    "desks": "check_desk(machine,hands,value) desk_apart(machine,hands,desk,limit,*,most) "
             "is_right(machine,hands,desk,limit,*,most) desk_kinds(machine,hands,desk,limit,*,most) "
             "keeper_desk(machine,hands,limit,*,most)",
    "parting": "nearest(machine,hands,one,other) parting(machine,hands,one,other) "
               "fewest_presses(machine,hands,one,other) parted_at(machine,hands,one,other,presses) "
               "plan_presses(machine,hands,histories) plan(machine,hands,histories) "
               "plan_holds(machine,hands,histories,value)",
    "folding": "settled_pressed(machine,hands,history,settled,press) window(machine,hands,history,settled) "
               "settled_alike(machine,hands,one,other,settled) foldable(machine,hands,history,settled) "
               "folded(machine,hands,history,settled)",
    "redo": "check_marked(machine,hands,value) marked_board(machine,hands,marked) "
            "marked_pressed(machine,hands,marked,press) marked_of(machine,hands,presses) "
            "marked_table(machine,hands,marked) marked_alike(machine,hands,one,other) "
            "marked_normal(machine,hands,marked) marked_kinds(machine,counts,*,most) "
            "marked_parting(machine,hands,one,other) Redoer(machine,hands)",
    "groups": "same_boards(machine,one,other) commuting_boards(machine,one,other) deeds_alike(machine,one,other) "
              "least_deed(machine,deed) least_deeds(machine) unlike_deeds(machine) deeds_commute(machine,one,other) "
              "commuting_rows(machine) blurs(machine,hands) free_paper(machine) acts_freely(machine)",
    "traces": "letters_of(machine,hands,history) do_lean(machine,hands,letter,other) "
              "trace_steps(machine,hands,history) is_trace(machine,hands,value) trace_history(machine,hands,steps) "
              "trace_paper(machine,hands,history,other) same_trace(machine,hands,history,other) "
              "traces_paper(machine,hands) kinds_are_traces(machine,hands) clique_counts(machine,hands) "
              "trace_count(machine,counts) trace_polynomial(machine,hands) trace_totals(machine,hands,last) "
              "traces_of(machine,counts,*,most)",
    "journals": "begun_octets(sign,history) plain_journal(pages) Journal() open_journal(pages)",
    "book": "folded_octets(machine,hands,history) plain_book(machine,hands,pages) new_book(machine,hands) "
            "open_book(machine,hands,pages)",
    "seen": "seen_table(machine,looks,hands,history) seen_alike(machine,looks,hands,one,other) "
            "seen_normal(machine,looks,hands,history) seen_count(machine,looks,counts,*,most) "
            "looks_shown(machine,looks,hands,history,presses) seen_parting(machine,looks,hands,one,other)",
    "picture": "picture(machine,hands,presses) compare(machine,hands,one,other) price(machine,counts,*,most)",
    "world": "World(machine,hands)",
    "settings": "check_setting(value) write_setting(setting) read_setting(text)",
    "desk": "Desk(text,hands)",
}
METHODS = {
    ("keeper", "Keeper"): "take(self,press) take_all(self,presses) board_now(self) standing(self) twin(self)",
    ("redo", "Redoer"): "take(self,press) board_now(self)",
    ("journals", "Journal"): "lay(self,press) keep(self) loose(self) begin(self,history) cut(self,left)",
    ("book", "Book"): "take(self,press) board_now(self) both_pages(self) keep(self) loose(self) cut(self,left) "
                      "fold(self)",
    ("world", "World"): "take(self,press) tells(self) beside(self,history)",
    ("desk", "Desk"): "say(self,line)",
}


class Interface(unittest.TestCase):
    """Each name is defined in the file under which it is listed, with the arguments that are told."""

    def test_defined_in_the_file_itself(self):
        for module, names in INTERFACE.items():
            tree = ast.parse((PACKAGE / (module + ".py")).read_text(encoding="utf-8"))
            defined = [node.name for node in tree.body if isinstance(node, (ast.FunctionDef, ast.ClassDef))]
            for name in names.split():
                self.assertIn(name.partition("(")[0], defined, module)

    def test_arguments(self):
        for module, names in INTERFACE.items():
            found = importlib.import_module("ownback." + module)
            for told in names.split():
                name, _, given = told.partition("(")
                if given:
                    signature = str(inspect.signature(getattr(found, name))).replace(" ", "")
                    self.assertEqual(signature, "(" + given, name)

    def test_all_that_is_listed(self):
        """The document's own list, if it is at hand."""
        path = PACKAGE.parent.parent / "shared" / "DOC.md"
        if path.exists():
            text = path.read_text(encoding="utf-8").partition("# The interface")[2]
            for row in [row for row in text.split("\n") if row.startswith("- `ownback/")]:
                module, _, names = row.partition(": ")
                listed = re.findall("`([A-Za-z_]+)`", names)
                here = INTERFACE[module.partition("/")[2].partition(".")[0]]
                methods = " ".join(METHODS.values())
                known = [name.partition("(")[0] for name in (here + " " + methods).split()]
                self.assertLessEqual(set(listed), set(known), module)
                self.assertLessEqual({name.partition("(")[0] for name in here.split()}, set(listed), module)

    def test_methods_are_defined_in_the_class_itself(self):
        for (module, name), methods in METHODS.items():
            made = getattr(importlib.import_module("ownback." + module), name)
            for told in methods.split():
                method, _, given = told.partition("(")
                signature = str(inspect.signature(vars(made)[method])).replace(" ", "")
                self.assertEqual(signature, "(" + given, method)
