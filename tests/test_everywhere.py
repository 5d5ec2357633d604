"""What holds everywhere [2]: nothing that is given is changed, nothing that can change is shared."""

import copy
import unittest

from quickways import kinds, names, trees
from quickways.bodywalks import parted_walk, probe_walk, stack_due, visit_bounds, walks
from quickways.bookdesks import BookDesk
from quickways.books import Books
from quickways.castfaults import fork_faults
from quickways.casting import casts
from quickways.castways import MiddleCasts, RowCasts
from quickways.cells import AddressLoans, CopyLoans
from quickways.charts import ChartExits, chart_of
from quickways.checkrows import CheckRow
from quickways.deciding import books_for, table_agrees, witness
from quickways.desks import Desk, Trial
from quickways.edits import edited, moved, undoing
from quickways.errors import QuickError
from quickways.exitfaults import branch_faults, loop_faults, stale_faults
from quickways.filling import fill, is_filling, support, with_kinds
from quickways.flows import demands, flows, holders, kind_of, left_out
from quickways.lending import alias_faults, name_faults, task_faults, watched_faults
from quickways.listing import listing
from quickways.loandeeds import both_ways, first_untidy, parted_read, play, straightened, surrounded
from quickways.looks import inputs, look
from quickways.middles import Middle
from quickways.mixtures import Mixture, all_mixtures
from quickways.odds import blamed_texts, fork_row, normal_row, odd_pairs, parting_value, trimmed
from quickways.openness import agree, classes, needed, open_parts, opening, safe_easings
from quickways.partings import hinge, parting
from quickways.picking import WaitTasks, WovenTasks
from quickways.piles import StackExits
from quickways.programs import Program
from quickways.reach import Reach, regions
from quickways.reading import Reader, read_program, read_row
from quickways.relooking import Kept
from quickways.rundesks import RunDesk
from quickways.runs import Run, tell, tell_classes, weavings
from quickways.runtext import read_run, record_text, telling_lines, write_run
from quickways.sharing import ask_faults, clashes, share_faults
from quickways.shrinking import shrunk, smaller
from quickways.stillness import still_faults, stilled, stumble
from quickways.stories import stories, story_for
from quickways.traces import alike_to, exchanges, layers, longest_chain, normal, parting_pair, swaps, trace_of
from quickways.watching import ChangeWatch, EveryWatch
from quickways.verdicts import demand, faults, lets, verdict
from quickways.weavings import next_picks
from quickways.wishes import Wish, difference
from quickways.writing import write_program, write_row
from tests.helper import PRINT, RETURN, WISH, call, fun, lent, lent_param, lit, main, name, place, start, wait

PLACES = (place("a", 5, "nat"), place("b"))
FUNS = (main(("let", "x", None, lit(1)), start("t", "f", lent("a")), call("f", lent("b")), wait("t")),
        fun("f", (lent_param("p", "num"),), ("narrow", "p", "small"), ("loop", 2, (PRINT,)),
            ("defer", "done", ("print", lit(1))),
            ("print", name("p")), RETURN))
WATCHES = (("watch", "a", WISH),)
DEEDS = [("begin", "k", "a"), ("write", "k", 2), ("read", "a"), ("over", "k"), ("read", "a")]
RECORDS = [("0", "row", "main", 1, "", ("a",), ("task 0",)), ("0.1", "row", "f", 1, "", (), ("b", "task 0.1"))]
TABLE = [[1, 1, 0, 0, 0, 0], [0, 0, 1, 1, 1, 1]]
GOOD = [1]
PICKS = [0, 1]
WAITS = {(): (1,)}
ANSWERS = [5, "red"]
WEAVING = [1, 0, 2]
KINDS = [None, "nat"]
LINES = ["loop 2", "  print 1", "end"]
RULES = ["loans.task", "tasks.share"]
TERMS = ["loans", "exits.loop", "watch"]
EDIT = ("f", 4, ("if", lit(1), (PRINT,), ()))
STORE = [("a", 1), ("b", "red")]
CASTS = [("nat", None, "x"), ("small", "nat", "y"), (None, None, "z")]


class TestNothingIsModified(unittest.TestCase):
    def setUp(self):
        self.given = (PLACES, FUNS, WATCHES, DEEDS, STORE, CASTS, RECORDS, TABLE, GOOD, PICKS, WAITS, ANSWERS, WEAVING,
                      KINDS, LINES, RULES, TERMS, EDIT)
        self.before = copy.deepcopy(self.given)

    def tearDown(self):
        self.assertEqual(self.given, self.before)

    def test_programs(self):
        made = Program(PLACES, FUNS, WATCHES)
        twin = Program(*copy.deepcopy((PLACES, FUNS, WATCHES)))
        reach = Reach(made)
        for text in ("main", "f"):
            made.own_names(text).append("more")
            for word in ("named", "uses", "sets", "lends", "asks"):
                getattr(reach, word)(text)
            for number, _, row in trees.numbered_rows(made.fun(text)):
                made.with_rows(text, number, (row,))
                trees.replace_row(made.fun(text), number, (PRINT, row))
                reach.row_uses(text, number)
            regions(made.fun(text)).clear()
            chart_of(made.fun(text))
            ChartExits().due("0:0", made.fun(text), 9).clear()
        for found in (fork_faults(made), alias_faults(made), name_faults(made, reach), watched_faults(made),
                      task_faults(made, reach), branch_faults(made), loop_faults(made), stale_faults(made),
                      share_faults(made, reach), ask_faults(made, reach), still_faults(made)):
            found.clear()
        list(made.rows()).clear()
        list(clashes(made, reach)).clear()
        with self.assertRaises(QuickError):
            made.with_rows("main", 2, ())
        self.assertEqual(made, twin)
        self.assertEqual((made.places, made.funs, made.watches, made.weight), (PLACES, FUNS, WATCHES, twin.weight))
        self.assertEqual(reach.uses("main"), Reach(twin).uses("main"))

    def test_loans(self):
        for kind in (AddressLoans, CopyLoans):
            store = list(STORE)
            loans = kind(store)
            store.clear()
            self.assertEqual(loans.value_at("b"), "red")
            play(loans, DEEDS[:2])
            loans.loans_on("a").clear()
            loans.open_loans().clear()
            self.assertEqual((loans.loans_on("a"), loans.open_loans()), (["k"], ["k"]))
            other = kind(STORE)
            self.assertEqual((other.value_at("a"), other.open_loans()), (1, []))

    def test_loan_deeds(self):
        for made in (straightened(STORE, DEEDS), surrounded(STORE, DEEDS, mark=7), list(both_ways(STORE, DEEDS))):
            made.clear()
        first_untidy(STORE, DEEDS)
        parted_read(STORE, DEEDS)
        tidy = DEEDS[:1]
        straightened(STORE, tidy).clear()
        self.assertEqual(tidy, DEEDS[:1])

    def test_views(self):
        for kind in (CheckRow, Middle):
            view = kind(*CASTS)
            other = kind(*CASTS)
            view.lent("bit", "bit", "more")
            _ = view + other.lent("bit", None, "more")
            for function in (blamed_texts, normal_row):
                function(view)
            parting_value(view, view.lent("bit", "bit", "more"))
            self.assertEqual(view, other)
        row = CheckRow(*CASTS)
        trimmed(row)
        Middle.of(row)
        _ = ~row
        self.assertEqual(row, CheckRow(*CASTS))
        for ways in (RowCasts(), MiddleCasts()):
            ways.fresh().lent("nat", None, "x")
            self.assertEqual(len(ways.fresh()), 0)

    def test_mixtures(self):
        made = Mixture.of("casts")
        twin = made.twin()
        for other in all_mixtures():
            made.parts_from(other)
        _ = (~made, made ^ "loans", made.quick_parts(), str(made), made.number)
        self.assertEqual(made, twin)

    def test_exits(self):
        exits = StackExits()
        exits.note("0:0", 1, "done", ("print", lit(1)), 1)
        exits.due("0:1", FUNS[1], 4).append(None)
        self.assertEqual(exits.room, 1)
        exits.due("0:0", FUNS[1], 4).append(None)
        self.assertEqual((exits.room, exits.due("0:0", FUNS[1], 4)), (0, []))

    def test_kinds_that_are_left_out(self):
        made, twin = Program(PLACES, FUNS, WATCHES), Program(*copy.deepcopy((PLACES, FUNS, WATCHES)))
        full = fill(made)
        for found in (holders(made), left_out(made), flows(made), casts(made), list(demands(made)),
                      support(made, ("", "b"))):
            found.clear()
        with_kinds(made, KINDS)
        self.assertTrue(is_filling(made, full))
        kind_of(made, "f", ("name", "p"))
        self.assertEqual((made, left_out(made)), (twin, left_out(twin)))

    def test_texts(self):
        made = Program(PLACES, FUNS, WATCHES)
        text = write_program(made)
        self.assertEqual(read_program(text), made)
        list(listing(made)).clear()
        row = read_row(LINES)
        write_row(row).clear()
        self.assertEqual(write_row(row), LINES)
        reader = Reader()
        for line in text.split("\n"):
            reader.take(line)
        self.assertEqual(reader.finish(), reader.finish())

    def test_runs(self):
        made, twin = Program(PLACES, FUNS, WATCHES), Program(*copy.deepcopy((PLACES, FUNS, WATCHES)))
        for mixture in all_mixtures():
            same = mixture.twin()
            telling = tell(made, mixture, answers=ANSWERS, weaving=WEAVING)
            run = Run(made, mixture, answers=ANSWERS, weaving=WEAVING)
            while not run.ended:
                run.ready().append("0.7")
                run.loan_deeds().clear()
                run.step()
            run.back()
            self.assertEqual((run.finish(), mixture), (telling, same))
        tell_classes(made, answers=ANSWERS, weaving=WEAVING)
        try:
            list(weavings(made, Mixture(), answers=ANSWERS, most=20)).clear()
        except QuickError:
            pass
        self.assertEqual(made, twin)

    def test_watching(self):
        for kind in (EveryWatch, ChangeWatch):
            watching = kind(WATCHES, STORE)
            watching.wrote("a", 5)
            watching.words().clear()
            self.assertEqual(len(watching.words()), 1)

    def test_walks(self):
        for tree in FUNS:
            for walk in walks(tree):
                stack_due(tree, walk)
            for number, _, _ in trees.numbered_rows(tree):
                probe_walk(tree, number)
                visit_bounds(tree, number)
            parted_walk(tree)

    def test_picks_and_traces(self):
        next_picks(PICKS, [2, 2]).append(3)
        for tasks in (WovenTasks(PICKS), WaitTasks()):
            ready = [(), (1,)]
            tasks.pick(0, ready, WAITS)
            self.assertEqual(ready, [(), (1,)])
        trace = trace_of(RECORDS)
        before = copy.deepcopy(trace)
        for other in list(exchanges(trace)) + list(alike_to(trace)):
            swaps(trace, other)
            parting_pair(trace, other)
        for function in (normal, layers, longest_chain):
            function(trace)
        self.assertEqual(trace, before)

    def test_wishes(self):
        wish, twin = Wish(TABLE, GOOD), Wish(TABLE, GOOD)
        series = [1, "red"]
        _ = (wish(series), series in wish, wish | wish, ~wish, stumble(wish), difference(wish, Wish.even()))
        stilled(wish)
        self.assertTrue(wish == twin)
        self.assertEqual((wish.tree(), series), (twin.tree(), [1, "red"]))

    def test_books(self):
        books, other = Books(*TERMS), Books("tasks")
        mixture = Mixture.of("loans")
        made, twin = Program(PLACES, FUNS, WATCHES), Program(*copy.deepcopy((PLACES, FUNS, WATCHES)))
        for found in (faults(made), verdict(made, books), list(books), list(needed("loans"))):
            found.clear()
        _ = (books | other, books & other, books - other, ~books, lets(books, made), books["exits"], str(books))
        for part in ("casts", "loans"):
            opening(books, part)
            safe_easings(books, part)
        _ = (open_parts(books), classes(books), agree(books, mixture, Mixture()))
        _ = (table_agrees(books, mixture, Mixture()), witness(books, mixture, Mixture()))
        demand(Books.none(), made)
        books_for(made)["casts"] = False
        one = Books("tasks")
        one |= books
        one -= books
        self.assertEqual((str(books), str(other)), (str(Books(*TERMS)), "tasks.share tasks.ask"))
        self.assertTrue(mixture == Mixture.of("loans"))
        self.assertEqual((made, faults(made)), (twin, faults(twin)))

    def test_edits(self):
        made, twin = Program(PLACES, FUNS, WATCHES), Program(*copy.deepcopy((PLACES, FUNS, WATCHES)))
        edited(made, EDIT)
        undoing(made, EDIT)
        moved(made, ("f", 6, PRINT), EDIT)
        look(made, "f").clear()
        inputs(made, "f")
        kept = Kept(made)
        kept.put(EDIT)
        kept.preview(EDIT, EDIT)
        kept.faults().clear()
        self.assertEqual(made, twin)
        self.assertEqual(kept.faults(), faults(edited(twin, EDIT)))

    def test_stories(self):
        for story in stories():
            before = copy.deepcopy((story.rules, story.program, story.answers, story.weaving))
            books, one, other = Books.none(), story.one, story.other
            told = {"answers": list(story.answers), "weaving": list(story.weaving)}
            list(smaller(story.program)).clear()
            parting(story.program, one, other, **told)
            hinge(story.program, one, other, **told)
            shrunk(story.program, books, one, other, **told)
            self.assertEqual((story.rules, story.program, story.answers, story.weaving), before)
            self.assertTrue(one == story.one and other == story.other and books == Books.none())
            self.assertEqual((tuple(told["answers"]), tuple(told["weaving"])), before[2:])
        story_for("loans", RULES)

    def test_texts_of_runs(self):
        run = Run(Program(PLACES, FUNS, WATCHES), Mixture(), answers=ANSWERS, weaving=WEAVING)
        run.step()
        text = write_run(run)
        read_run(run.program, text).finish()
        telling_lines(read_run(run.program, text).finish()).clear()
        for record in run:
            record_text(record)
        self.assertEqual(write_run(run), text)

    def test_desks(self):
        made, twin = Program(PLACES, FUNS, WATCHES), Program(*copy.deepcopy((PLACES, FUNS, WATCHES)))
        mixture = Mixture.of("watch")
        runs, books, desk = RunDesk(made), BookDesk(made), Desk(made)
        runs.begin(mixture=mixture, answers=ANSWERS, weaving=WEAVING)
        runs.order("turn casts").append("more")
        books.put(EDIT)
        books.verdict().clear()
        desk.load(made, answers=ANSWERS, weaving=WEAVING)
        desk.rehearse("step", "ease casts").clear()
        with Trial(desk):
            desk.put(EDIT)
        self.assertTrue(mixture == Mixture.of("watch"))
        self.assertEqual((made, desk.kept.program, desk.run.program), (twin, twin, twin))
        self.assertEqual(Desk.read(desk.save()).save(), desk.save())

    def test_new_lists(self):
        odd_pairs().clear()
        self.assertEqual(len(odd_pairs()), 5)


class TestIntegers(unittest.TestCase):
    def test_integers_are_never_true_or_false(self):
        made = Program(PLACES, FUNS, WATCHES)
        loans = CopyLoans(STORE)
        loans.begin("k", "a")
        exits = StackExits()
        exits.note("0:0", 1, "done", ("print", lit(1)), 1)
        _, value = fork_row("nat", "small")
        found = [kinds.atom_of(1), names.read_value("1"), made.weight, trees.size_of(FUNS[1][4]), loans.room,
                 exits.room,
                 AddressLoans(STORE).room, ChartExits().room, Mixture.of("casts").number, len(Middle(*CASTS)), value]
        tree = FUNS[1]
        found += [wish_number for state in Wish(TABLE, GOOD).table for wish_number in state]
        found += [len(Wish.even()), Wish.MOST, stumble(Wish.even())[1], *Wish.even().good,
                  *longest_chain(trace_of(RECORDS))]
        found += [number for bounds in visit_bounds(tree, 3) if bounds for number in bounds] + list(probe_walk(tree, 1))
        found += next_picks([0], [2])
        run = Run(Program(PLACES, FUNS, WATCHES), Mixture.of("casts", "loans"), answers=ANSWERS)
        run.finish()
        found += [len(run), *run.rooms(), *(record[3] for record in run)]
        kept = Kept(made)
        kept.put(EDIT)
        found += [len(kept), kept.looks, len(Books("loans")), undoing(made, EDIT)[1], moved(made, ("f", 6, PRINT),
                                                                                            EDIT)[1]]
        found += [number for numbers in classes(Books("casts")) for number in numbers]
        found += [parting(story.program, story.one, story.other)[0] for story in list(stories())[:3]]
        reader = Reader()
        reader.take("fun f()")
        found += [len(reader), reader.depth]
        same = Run(read_program("fun main()\n  print 1 == 1\n  print 1 < 1\n  return 0\nend"), Mixture())
        found += [line[1] for line in same.finish()]
        found += [mixture.number for mixture in all_mixtures()]
        found += [number for number, _, _ in trees.numbered_rows(FUNS[0])]
        self.assertEqual({type(number) for number in found}, {int})


if __name__ == "__main__":
    unittest.main()
