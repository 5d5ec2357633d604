"""The names and arguments that the interface lists stand in the files under which it lists them."""

import ast
import unittest
from pathlib import Path

from quickways.bookdesks import BookDesk
from quickways.desks import Desk
from quickways.rundesks import RunDesk

FOLDER = Path(__file__).resolve().parent.parent / "quickways"

# A function with its arguments as they are written, or a class with its methods.
FUNCTIONS = {
    "names": ["is_word(text)", "is_name(text)", "is_literal(value)", "show_value(value)", "read_value(text, line=1)",
              "label_of(fun, number)", "task_text(path)"],
    "kinds": ["atom_of(value)", "atoms_of(kind)", "fits(value, kind)", "under(kind, other)", "meet(kind, other)",
              "join(kind, other)", "least_kind(value)", "at_odds(kind, other)"],
    "trees": ["numbered_rows(fun)", "row_at(fun, number)", "replace_row(fun, number, rows)", "size_of(rows)",
              "closes(rows)", "names_read(row)", "names_set(row)", "names_lent(row)"],
    "reach": ["regions(fun)"],
    "mixtures": ["all_mixtures()"],
    "odds": ["odd_pairs()", "has_odds(row)", "trimmed(row)", "fork_row(kind, other, *, direction='reading')",
             "parting_value(view, other)", "alike(view, other)", "blamed_texts(view)", "normal_row(view)"],
    "castfaults": ["fork_faults(program)"],
    "loandeeds": ["play(loans, deeds)", "both_ways(places, deeds)", "parted_read(places, deeds)",
                  "first_untidy(places, deeds)", "surrounded(places, deeds, *, mark)", "straightened(places, deeds)"],
    "lending": ["alias_faults(program)", "name_faults(program, reach)", "watched_faults(program)",
                "task_faults(program, reach)"],
    "charts": ["chart_of(fun)", "show_chart(fun)"],
    "exitfaults": ["branch_faults(program)", "loop_faults(program)", "stale_faults(program)"],
    "bodywalks": ["count_walks(fun)", "walks(fun, *, most=200)", "stack_due(fun, met)", "chart_due(fun, number)",
                  "visit_bounds(fun, number)", "probe_walk(fun, number)", "parted_walk(fun)"],
    "weavings": ["next_picks(picks, options)"],
    "traces": ["trace_of(records)", "free(one, other, /)", "exchanges(trace)", "alike_traces(one, other, /)",
               "normal(trace)", "alike_to(trace, *, most=200)", "swaps(one, other, /)", "parting_pair(one, other, /)",
               "layers(trace)", "longest_chain(trace)"],
    "sharing": ["clashes(program, reach)", "share_faults(program, reach)", "ask_faults(program, reach)"],
    "wishes": ["difference(one, other, /)"],
    "stillness": ["is_still(wish)", "stilled(wish)", "stumble(wish)", "still_faults(program)"],
    "flows": ["holders(program)", "left_out(program)", "kind_of(program, fun, expr)", "demands(program)",
              "flows(program)"],
    "casting": ["casts(program)", "blame_of(cast)"],
    "filling": ["with_kinds(program, kinds)", "fill(program)", "is_filling(program, other)",
                "support(program, holder)"],
    "expressions": ["show_expr(expr)", "read_expr(text, line=1)"],
    "writing": ["write_program(program)", "write_row(row)"],
    "reading": ["read_program(text)", "read_row(lines)"],
    "listing": ["listing(program, *, width=60)"],
    "runs": ["tell(program, mixture, *, answers=(), weaving=())", "tell_classes(program, *, answers=(), weaving=())",
             "weavings(program, mixture, *, answers=(), most=200)"],
    "runtext": ["line_text(line)", "telling_lines(telling)", "record_text(record)", "write_run(run)",
                "read_number(text, line)", "read_run(program, text)"],
    "rules": ["part_of(rule)", "rules_of(part)"],
    "verdicts": ["faults(program)", "verdict(program, books)", "lets(books, program)", "demand(books, program)"],
    "openness": ["opening(books, part)", "open_parts(books)", "agree(books, one, other, /)", "classes(books)",
                 "needed(*parts)", "safe_easings(books, *parts)"],
    "edits": ["edited(program, edit)", "undoing(program, edit)", "moved(program, edit, over)"],
    "looks": ["inputs(program, fun)", "look(program, fun)"],
    "stories": ["stories()", "story_for(part, rules)"],
    "partings": ["parting(program, one, other, *, answers=(), weaving=())",
                 "hinge(program, one, other, *, answers=(), weaving=())"],
    "shrinking": ["smaller(program)", "shrunk(program, books, one, other, *, answers=(), weaving=())"],
    "deciding": ["table_agrees(books, one, other)", "witness(books, one, other)", "books_for(program)"],
    "runorders": ["give_run_order(desk, line)"],
    "bookorders": ["give_book_order(desk, line)"],
}
LOANS = ["__init__(self, places)", "begin(self, key, target)", "value_at(self, spot)", "set_at(self, spot, value)",
         "over(self, key)", "root(self, spot)", "loans_on(self, spot)", "open_loans(self)", "room(self)"]
EXITS = ["note(self, frame, number, guard, deed, value)", "due(self, frame, fun, position)", "room(self)"]
WATCHING = ["__init__(self, watches, places)", "wrote(self, place, value)", "words(self)"]
VIEW = ["__init__(self, *casts)", "lent(self, read, write, label)", "reading(self, value)", "writing(self, value)"]
CLASSES = {
    ("programs", "Program"): [
        "__init__(self, places, funs, watches)", "fun(self, name)", "place_names(self)", "is_place(self, name)",
        "is_lent(self, fun, name)", "kind(self, fun, name)", "result(self, fun)", "own_names(self, fun)", "rows(self)",
        "view_checks(first, second)", "lend_checks(self, fun, name, other, param)",
        "narrow_checks(self, fun, name, kind)",
        "with_rows(self, fun, number, rows)"],
    ("reach", "Reach"): [
        "__init__(self, program)", "points(self, fun, param)", "named(self, fun)", "uses(self, fun)", "sets(self, fun)",
        "lends(self, fun)", "asks(self, fun)", "row_uses(self, fun, number)", "row_sets(self, fun, number)",
        "row_lends(self, fun, number)"],
    ("mixtures", "Mixture"): [
        "__init__(self, *, casts='plain', loans='plain', exits='plain', tasks='plain', watch='plain')",
        "of(cls, *parts)", "numbered(cls, number)", "read(cls, text)", "number(self)", "quick_parts(self)",
        "parts_from(self, other)", "twin(self)"],
    ("checkrows", "CheckRow"): VIEW,
    ("middles", "Middle"): VIEW + ["of(cls, row)", "read_labels(self)", "write_labels(self)", "check_row(self)"],
    ("castways", "RowCasts"): ["fresh(self)"],
    ("castways", "MiddleCasts"): ["fresh(self)"],
    ("cells", "AddressLoans"): LOANS,
    ("cells", "CopyLoans"): LOANS,
    ("piles", "StackExits"): EXITS,
    ("charts", "ChartExits"): EXITS,
    ("picking", "WovenTasks"): ["__init__(self, weaving)", "pick(self, count, ready, waits)"],
    ("picking", "WaitTasks"): ["pick(self, count, ready, waits)"],
    ("watching", "EveryWatch"): WATCHING,
    ("watching", "ChangeWatch"): WATCHING,
    ("reading", "Reader"): ["__init__(self)", "take(self, text)", "finish(self)", "depth(self)", "__len__(self)",
                            "__iter__(self)"],
    ("runs", "Run"): [
        "__init__(self, program, mixture, *, answers=(), weaving=())", "step(self)", "back(self)", "again(self)",
        "finish(self)", "__len__(self)",
        "__iter__(self)", "trace(self)", "ended(self)", "ready(self)", "loan_deeds(self)", "rooms(self)"],
    ("wishes", "Wish"): [
        "__init__(self, table, good)", "always(kind)", "ever(kind)", "first(kind)", "last(kind)", "even()",
        "__call__(self, values)", "__contains__(self, x)", "__len__(self)", "__eq__(self, other)", "tree(self)",
        "__or__(self, other)", "__and__(self, other)", "__sub__(self, other)", "__invert__(self)"],
    ("books", "Books"): [
        "__init__(self, *terms)", "full(cls)", "none(cls)", "read(cls, text)", "__contains__(self, x)", "__len__(self)",
        "__iter__(self)", "__str__(self)", "__eq__(self, other)", "__getitem__(self, at)",
        "__setitem__(self, at, worth)", "__or__(self, other)", "__and__(self, other)", "__sub__(self, other)",
        "__invert__(self)", "__ior__(self, other)", "__isub__(self, other)"],
    ("relooking", "Kept"): ["__init__(self, program)", "put(self, edit)", "undo(self)", "faults(self)",
                            "preview(self, *edits)", "__len__(self)"],
    ("stories", "Story"): ["one(self)", "other(self)", "tells(self, mixture)"],
    ("rundesks", "RunDesk"): ["__init__(self, program)", "begin(self, *, mixture=None, answers=None, weaving=None)",
                              "order(self, line)"],
    ("bookdesks", "BookDesk"): ["__init__(self, program)", "put(self, edit)", "undo(self)", "verdict(self)",
                                "order(self, line)"],
    ("desks", "Desk"): ["__init__(self, program)", "put(self, edit)", "undo(self)", "order(self, line)",
                        "rehearse(self, *lines)", "load(self, program, *, answers=(), weaving=())", "save(self)",
                        "read(cls, text)"],
    ("desks", "Trial"): ["__init__(self, desk)", "__enter__(self)"],
}
# The kinds of decorated methods.
DECORATED = {"property": ["number", "read_labels", "write_labels", "room", "depth", "trace", "ended", "one", "other"],
             "classmethod": ["of", "numbered", "read", "full", "none"],
             "staticmethod": ["view_checks", "always", "ever", "first", "last", "even"]}


def tree_of(module):
    return ast.parse((FOLDER / f"{module}.py").read_text())


def heads(body):
    return [f"{node.name}({ast.unparse(node.args)})" for node in body if isinstance(node, ast.FunctionDef)]


class TestInterface(unittest.TestCase):
    def test_functions(self):
        for module, wanted in FUNCTIONS.items():
            found = heads(tree_of(module).body)
            for head in wanted:
                self.assertIn(head, found, module)

    def test_classes(self):
        for (module, name), wanted in CLASSES.items():
            (made,) = [node for node in tree_of(module).body if isinstance(node, ast.ClassDef) and node.name == name]
            found = heads(made.body)
            for head in wanted:
                self.assertIn(head, found, (module, name))

    def test_decorated_methods(self):
        for (module, name), wanted in CLASSES.items():
            for node in ast.walk(tree_of(module)):
                if isinstance(node, ast.ClassDef) and node.name == name:
                    for made in [made for made in node.body if isinstance(made, ast.FunctionDef)]:
                        marks = [mark for mark, names in DECORATED.items() if made.name in names]
                        self.assertEqual([mark.id for mark in made.decorator_list], marks, (module, made.name))

    def test_the_bases_of_a_desk(self):
        self.assertEqual(Desk.__bases__, (RunDesk, BookDesk))


if __name__ == "__main__":
    unittest.main()
