"""The head of the interface: each name in its file, with its parameters."""

import importlib
import inspect

from chooseonce.benches import Bench
from chooseonce.books import Book
from chooseonce.numbers import Numbers
from chooseonce.readers import LineReader
from chooseonce.shapes import Shape
from tests.helping import Case

FUNCTIONS = {
    "words": ("words_in(line, text)", "is_name(word)"),
    "wayreading": (
        "read_way(rows, text)", "way_from(reader, rows)", "piece_from(reader, rows)",
        "ref_from(reader, rows)",
    ),
    "formreading": ("read_formula(sort, rows, text)", "formula_from(reader, sort, rows)"),
    "askreading": ("read_ask(text)", "ask_from(reader)"),
    "programs": ("read(text)",),
    "shownparts": (
        "shown_way(rows, way)", "shown_formula(sort, rows, formula)", "shown_ask(ask)",
        "shown_ref(rows, ref)",
    ),
    "showing": ("shown(program)",),
    "kinds": ("kinds_of(way)", "part_places(kinds)", "sign_places(kinds)", "run_places(kinds)"),
    "askparts": ("judges_of(ask)", "asks_in(ask)", "has_first(ask)"),
    "namelooks": ("look_names(program)",),
    "signlooks": ("look_signs(program)",),
    "reflooks": ("look_mentions(program)", "look_makers(program)", "look_tests(program)"),
    "formulalooks": ("look_formulas(program)", "look_asks(program)"),
    "rowlooks": ("checked_rows(book, rows)",),
    "stretches": (
        "whole_of(lengths)", "widths_of(stretch)", "piece_stretches(stretch, cut)",
        "texts_in(rows, stretch)",
    ),
    "dresses": (
        "dress_of(rows, way, stretch, cut)", "holds(book, way, dress)", "plain_dress(book, kinds)",
    ),
    "formvalues": (
        "form_value(book, kinds, form, dress, given)",
        "number_value(book, kinds, formula, dress, given)",
        "product_value(book, kinds, formula, dress, given)",
        "text_value(book, kinds, formula, dress, given)",
    ),
    "nodevalues": (
        "judge_value(book, judge, maker, dress, given)",
        "node_value(book, ask, maker, dress, given, head)",
    ),
    "treevalues": (
        "judged(book, judge, rows, candidate, stretch)",
        "value(book, ask, rows, candidate, stretch)",
    ),
    "standing": (
        "wrong_at(book, rows, candidate, lot, stretch)",
        "stands(book, rows, candidate, lot, stretch)",
    ),
    "trees": (
        "height_of(candidate)", "node_at(candidate, path)", "nodes_of(book, candidate, stretch)",
        "replaced_at(candidate, path, other)",
    ),
    "signing": ("signing_of(book, way)", "is_signed(book, way)"),
    "making": ("made_lots(book)", "useful_lots(book)", "live_ways(book, lot)"),
    "samples": ("sample(book, lot)", "used_sample(book, lot)"),
    "comings": ("steps_of(book)", "comes_to(book, lot)", "long_lots(book, row)"),
    "leastwidths": ("least_widths(book, row)", "empty_lots(book)"),
    "greatestwidths": ("greatest_widths(book, row)",),
    "chains": ("chains_of(book)", "ring_of(book)", "ranks_of(book)"),
    "ringsamples": ("ring_shown(book, many)",),
    "margins": ("margins_of(book, row)",),
    "listing": ("candidates_of(shape, rows, lot, stretch)", "all_candidates(shape, rows)"),
    "basicanswers": ("basic_answer(ask, bag)",),
    "fronts": ("kept_pairs(ask, pairs)",),
    "answers": ("answer_to(ask, bag)",),
    "bags": ("bag_of(shape, ask, rows, lot, stretch)", "once(shape, ask, rows)"),
    "shorts": ("short_of(ask, answer)",),
    "gathering": ("plus_of(ask, one, other)", "gathered(ask, answers)"),
    "makes": ("make_of(book, ask, maker, dress, answers, head)",),
    "slopes": (
        "slope_of(form, place)", "low_of(formula, place)", "high_of(formula, place)",
        "bends(formula, place)",
    ),
    "collecting": ("collected(book, kinds, formula, dress)", "dresses_of(book, kinds, refs)"),
    "faults": ("fault_at(book, ask, maker, place)",),
    "blinds": ("is_blind(book, ask, maker, place)",),
    "borders": ("border_of(book, ask)", "passes(book, ask)", "used_border(shape, ask)"),
    "flanks": ("flank_of(book, kinds, formula, place, dress, side)",),
    "shownwrong": ("shown_wrong(book, ask)", "is_kin(book, other, ask)"),
    "mending": ("mended(book, ask)", "last_step(book, ask, answer)"),
    "cutting": (
        "cuts_in(boxes, width)", "many_cuts(boxes, width)", "cuts_of(shape, lot, way, stretch)",
    ),
    "spots": (
        "is_spot(shape, lengths, spot)", "spots_of(shape, lengths)", "whole_spot(shape, lengths)",
        "part_spots(shape, spot, way, cut)",
    ),
    "prices": ("many_spots(shape, lengths, lot, widths)", "work_of(shape, plan, lot, widths)"),
    "planning": (
        "all_kept(shape)", "price_of(shape, lengths, plan)", "room_of(shape, lengths, plan)",
        "plan_for(shape, lengths, most)",
    ),
    "needing": (
        "needs_of(shape, lengths, plan, spot)", "order_fits(shape, lengths, plan, order)",
        "waves_of(shape, lengths)",
    ),
    "runs": ("run_plan(shape, ask, rows, plan, order)", "resumed(shape, ask, rows, plan, known)"),
    "tables": (
        "early_table(shape, ask, rows)", "early(shape, ask, rows)", "entry_of(shape, table, spot)",
    ),
    "answering": (
        "answer(shape, ask, rows)", "strictly(shape, ask, rows)", "asked(shape, name, rows)",
    ),
    "expressions": (
        "told_by(expression, settings)", "added(one, other)", "taken_off(one, other)",
    ),
    "codes": ("code_of(shape)",),
    "events": (
        "events_of(shape, lengths, code)", "turns_of(lengths, code)", "idle_loops(lengths, code)",
    ),
    "codechecks": ("code_fits(shape, lengths, code)",),
    "coderuns": ("run_code(shape, ask, rows, code)",),
    "codetexts": ("shown_code(code)", "read_code(text)"),
    "tablechecks": ("table_fits(shape, ask, rows, table)",),
    "boxbounds": (
        "form_bounds(book, kinds, form, dress, pairs)",
        "formula_bounds(book, kinds, formula, dress, pairs)",
    ),
    "boundtables": ("bounds_of(shape, judge, rows)",),
    "boundchecks": ("bounds_fit(shape, judge, rows, bounds)",),
    "papers": ("best_paper(shape, ask, rows)", "paper_fits(shape, ask, rows, paper)"),
    "edits": ("edited(book, rows, edit)", "undoing(rows, edit)", "old_stretch(stretch, edit)"),
    "carrying": ("carried(shape, rows, edit, table)",),
    "shelf": (
        "distance(signs, one, other, gap, change)", "longest(signs, one, other)",
        "nested(signs, words, text)",
    ),
}

METHODS = (
    (LineReader, "__init__(self, line, text)"),
    (LineReader, "look(self)"), (LineReader, "take(self)"), (LineReader, "expect(self, value)"),
    (LineReader, "done(self)"), (LineReader, "bad(self)"), (LineReader, "take_name(self)"),
    (LineReader, "take_number(self)"), (LineReader, "take_integer(self)"),
    (LineReader, "take_letters(self)"), (LineReader, "take_word(self, width)"),
    (Book, "__init__(self, program)"), (Book, "lots(self)"), (Book, "ways(self, lot)"),
    (Book, "makers(self)"), (Book, "kinds(self, maker)"), (Book, "parts(self, maker)"),
    (Book, "in_pairs(self, name, word)"), (Book, "number_for(self, name, word)"),
    (Book, "judges(self)"), (Book, "sort_of(self, judge)"), (Book, "formula(self, judge, maker)"),
    (Book, "asks(self)"), (Book, "ask(self, name)"),
    (Shape, "__init__(self, book)"), (Shape, "live(self, lot)"), (Shape, "place(self, lot)"),
    (Shape, "rank(self, lot)"), (Shape, "is_empty(self, lot)"), (Shape, "widths(self, lot, row)"),
    (Shape, "margin(self, lot, row)"), (Shape, "box(self, piece, row)"),
    (Numbers, "__init__(self, shape, rows)"), (Numbers, "many(self)"),
    (Numbers, "many_at(self, spot)"), (Numbers, "nth(self, number)"),
    (Numbers, "number_of(self, candidate)"),
    (Bench, "__init__(self, program)"), (Bench, "lay(self, rows)"), (Bench, "edit(self, edit)"),
    (Bench, "undo(self)"), (Bench, "rows_now(self)"), (Bench, "plan_by(self, name, plan)"),
    (Bench, "answer(self, name)"), (Bench, "due(self, name)"), (Bench, "made(self, name)"),
    (Bench, "looked(self, name)"), (Bench, "many(self)"), (Bench, "nth(self, number)"),
)


def told(thing):
    return thing.__name__ + str(inspect.signature(thing))


class Interface(Case):
    def test_functions_stand_in_their_files(self):
        for file, listed in FUNCTIONS.items():
            module = importlib.import_module("chooseonce." + file)
            for entry in listed:
                function = getattr(module, entry.partition("(")[0])
                self.assertEqual(told(function), entry)
                self.assertEqual(function.__module__, "chooseonce." + file)

    def test_methods_stand_in_their_classes(self):
        for owner, entry in METHODS:
            self.assertEqual(told(vars(owner)[entry.partition("(")[0]]), entry)

    def test_classes_stand_in_their_files(self):
        self.assertEqual(LineReader.__module__, "chooseonce.readers")
        self.assertEqual(Book.__module__, "chooseonce.books")
        self.assertEqual(Shape.__module__, "chooseonce.shapes")
        self.assertEqual(Numbers.__module__, "chooseonce.numbers")
        self.assertEqual(Bench.__module__, "chooseonce.benches")
