"""The interface: names, arguments, their order, keywords and default values, and where each name is defined."""

import importlib
import inspect
import unittest

INTERFACE = {
    "letters": (
        "check_row(row, n)", "check_window(window, n, width)", "at_place(window, place, /)",
        "moved_on(window, row, /)"),
    "tokens": ("check_token(token, n, width, many)", "shown_token(token)", "read_token(text)"),
    "recents": (
        "check_recents(recents, width)", "after_copy(recents, distance, rule)", "after_again(recents, index, rule)",
        "moved_order(many, rule, indexes)", "last_used(start, used)", "fewest_moves(before, after, rule)"),
    "telling": (
        "resolved(token, recents, width)", "output_of(token, window, recents)",
        "recents_behind(token, recents, width, *, copied='front', again='front')",
        "run_tokens(tokens, window, recents, *, n, copied='front', again='front')"),
    "placemaps": (
        "PlaceMap(entries, width)",
        "PlaceMap.made(tokens, recents, width, *, copied='front', again='front')",
        "PlaceMap.width", "PlaceMap.__len__()", "PlaceMap.__iter__()", "PlaceMap.__eq__(other)",
        "PlaceMap.__contains__(x)", "PlaceMap.__add__(other)", "PlaceMap.filled(window)", "PlaceMap.needs()",
        "PlaceMap.left()", "PlaceMap.forgotten(depth)"),
    "blocks": (
        "Blocks(width, n)", "Blocks.meet(one, other)", "Blocks.letter_of(place)", "Blocks.groups()",
        "Blocks.count()", "Blocks.solved()"),
    "likeness": (
        "first_unlike(a, b)", "parting_window(a, b)", "telling_windows(a, row, n)", "common_windows(a, b, n)"),
    "nearest": ("nearest_distances(a)", "least_distance(a)", "tokens_for(a)"),
    "fewest": (
        "held(a, i, j, *, most, longest=40)", "fewest_tokens(a, *, most, longest=40)", "unheld(a, *, most, longest=40)"),
    "signs": (
        "check_sign(sign, n, width, many, tables)", "spread(sign)", "shown_sign(sign)", "read_sign(text)"),
    "words": ("free_words(lengths)", "lengths_back(words)", "sums(lengths)"),
    "tables": (
        "Table(rows, *, n, width, many, tables)", "Table.__len__()", "Table.__iter__()", "Table.__contains__(x)",
        "Table.__eq__(other)", "Table.full", "Table.words()", "Table.begun_words()", "Table.gaps()",
        "Table.token(word)", "Table.rests(begun)", "Table.first_word(token)", "Table.pairs()"),
    "bitrows": ("check_bits(bits)", "split_bits(table, bits)", "parting_bits(one, other)"),
    "formats": (
        "Format(n, width, *, recents=(), copied='front', again='front', tables, restarts=False)", "Format.n",
        "Format.width", "Format.recents", "Format.copied", "Format.again_rule", "Format.restarts", "Format.__len__()",
        "Format.__eq__(other)", "Format.table(number)", "Format.shown()", "Format.read(lines)"),
    "controls": (
        "Controls(fmt)", "Controls.fmt", "Controls.__len__()", "Controls.__iter__()", "Controls.__contains__(x)",
        "Controls.number_of(control)", "Controls.at_number(number)", "Controls.words(number)",
        "Controls.token(number, word)", "Controls.behind(number, word)", "Controls.begun_words(number)",
        "Controls.rests(number, begun)", "Controls.way(number)", "Controls.ended_number()"),
    "reach": (
        "Reach(controls)", "Reach.controls", "Reach.of(number)", "Reach.walk(number)", "Reach.noticed(number, place)",
        "Reach.depth(number, begun)", "Reach.places(number, begun)"),
    "classes": (
        "Classes(one, other=None)", "Classes.one", "Classes.other", "Classes.count()",
        "Classes.class_of(number, *, second=False)", "Classes.members(cls)", "Classes.reach(*, second=False)",
        "Classes.walk(a, b, *, a_second=False, b_second=False)", "Classes.marks_fit(marks)"),
    "covers": ("Covers(one, other)", "Covers.covered(a, b)", "Covers.uncovered(a, b)"),
    "heard": ("heard_places(fmt)",),
    "states": (
        "start_state(fmt, window)", "check_state(fmt, state)", "check_deed(deed)", "check_future(deeds)",
        "done(fmt, state, deed)", "shown_answer(answer)"),
    "readers": (
        "Reader(fmt, *, window=None)", "Reader.of_state(fmt, state)", "Reader.fmt", "Reader.control", "Reader.begun",
        "Reader.window", "Reader.state", "Reader.ended", "Reader.take(deed)", "Reader.feed(deeds)", "Reader.restart()",
        "Reader.lose(many=1)", "Reader.told()", "Reader.twin()"),
    "streams": (
        "bits_of(fmt, control, tokens)", "tokens_of(fmt, control, bits)", "letters_bits(fmt, control, row)",
        "first_refused(fmt, state, bits)", "deeds_map(fmt, standing, deeds)", "streams_of(fmt, standing, many)",
        "each_stream(fmt, standing, many)"),
    "leasts": (
        "least_state(classes, state, *, second=False)", "state_with(classes, held, *, second=False)",
        "kept_letters(held)"),
    "patterns": (
        "pattern_of(classes, standing, *, second=False)", "shape_of(pattern)", "filled_pattern(pattern, window)",
        "alike_windows(classes, one, other, *, second=False)",
        "unlike_rest(classes, one, other, window, *, second=False)"),
    "alikes": (
        "alike(classes, one, other, *, second=False)", "parting_future(classes, one, other, *, second=False)",
        "read_alike(classes, one, other, *, second=False)", "parting_stream(classes, one, other, *, second=False)"),
    "noticing": (
        "places_of(classes, standing, *, second=False)", "unnoticed(classes, standing, *, second=False)",
        "noticed_by(classes, standing, place, *, second=False)",
        "unsettled(classes, standing, places, *, second=False)"),
    "nexts": ("next_least(classes, held, deed)", "least_behind(classes, held, deeds)"),
    "heads": (
        "Head(classes, held)", "Head.kept(classes, state, *, second=False)", "Head.read(classes, text)", "Head.held",
        "Head.__len__()", "Head.__eq__(other)", "Head.reader()", "Head.text()"),
    "rests": (
        "needs_of(fmt, standing, deeds)", "needs_of_all(fmt, standing, futures)", "kinds(fmt, standing, futures)",
        "first_apart(fmt, standing, deeds, window, other)"),
    "machines": (
        "Machine(rows, *, restarts=False)", "Machine.restarts", "Machine.menu", "Machine.__len__()",
        "Machine.__eq__(other)", "Machine.rows()", "Machine.run(deeds)", "Machine.state_behind(deeds)",
        "Machine.reached()", "Machine.renumbered()", "Machine.doubled()"),
    "leastmachines": ("least_machine(fmt, window)", "parting_row(machine, a, b)", "folded(machine)"),
    "rightness": ("erring_row(fmt, window, machine)", "states_map(fmt, window, machine)"),
    "counts": ("beginnings(fmt)", "shapes(fmt)", "common(patterns, n)", "begun_count(fmt)", "least_count(fmt)"),
    "lots": (
        "lost_lot(fmt)", "moved_lot(fmt, lot, bits)", "classes_of_lot(classes, lot)",
        "least_map(classes, standing, deeds, *, second=False)"),
    "joins": (
        "joining_two(fmt, one, other)", "closed_pairs(fmt, one, other)", "joining(fmt, lot)", "never_joined(fmt)"),
    "sure": (
        "is_sure(fmt, lot, bits)", "unsure(fmt, lot, bits)", "first_sure(fmt, lot, bits)", "sure_row(fmt)",
        "sure_answers(fmt, lot, bits)"),
    "turned": (
        "turned_bit(bits, at)", "healed(fmt, state, bits, other)", "spoilt(fmt, standing, deeds, places)",
        "heals(fmt, standing, deeds, places)"),
    "soon": (
        "Soon(fmt)", "Soon.of(number, place)", "Soon.from_standing(standing, place)", "Soon.by_place(standing)",
        "Soon.stream(standing, place)", "Soon.horizon(standing)"),
    "apart": (
        "fewest_apart(fmt, standing, window, other)", "noticed_within(fmt, standing, most)",
        "kinds_within(fmt, standing, most)"),
    "forgets": (
        "Forgets(fmt)", "Forgets.of(number, known=())", "Forgets.way(number, known=())",
        "Forgets.known_behind(number, word, known=())"),
    "texts": (
        "TextWays(fmt, window, text)", "TextWays.of(number, index=0)", "TextWays.way(number)", "TextWays.bits(number)",
        "TextWays.drops(number, way)", "shorter_copy(fmt, number)"),
    "pieces": (
        "Pieces(fmt, rows)", "Pieces.__len__()", "Pieces.bounds(k)", "Pieces.letters(k)",
        "Pieces.told(window, *, lost=())", "Pieces.source(at)", "Pieces.spoilt(lost)", "Pieces.needed(a, b)",
        "Pieces.late(k)", "Pieces.joined(other)"),
    "desks": (
        "Desk(fmt, *, window=None)", "Desk.fmt", "Desk.state", "Desk.told_text", "Desk.take(deed)", "Desk.feed(deeds)",
        "Desk.restart()", "Desk.lose(many=1)", "Desk.undo(many=1)", "Desk.keep(name)", "Desk.head(name)",
        "Desk.go_on(name)", "Desk.forget(name)", "Desk.names()", "Desk.least()", "Desk.alike(other)",
        "Desk.parting(other)", "Desk.twin()", "Desk.trial()"),
    "trials": ("Trial(desk)", "Trial.__enter__()", "tried(desk, acts)", "abandoned(desk, deeds)"),
    "listings": ("table_lines(table)", "format_lines(fmt)", "heads_lines(desk)", "machine_lines(machine)"),
}
CLASS_METHODS = ("PlaceMap.made", "Format.read", "Reader.of_state", "Head.kept", "Head.read")


class Interface(unittest.TestCase):
    def test_every_name_is_defined_in_its_file_with_its_arguments(self):
        for module, entries in INTERFACE.items():
            for entry in entries:
                with self.subTest(module=module, entry=entry):
                    self.check(importlib.import_module("leastreader." + module), entry)

    def check(self, module, entry):
        name, bracket, arguments = entry.partition("(")
        owner, _, method = name.partition(".")
        found = vars(module)[owner]
        self.assertEqual(found.__module__, module.__name__)
        if not method:
            self.assertEqual(owner + str(inspect.signature(found)), entry)
            return
        made = vars(found)[method]
        if not bracket:
            self.assertIsInstance(made, property)
            return
        self.assertEqual(isinstance(made, classmethod), name in CLASS_METHODS)
        plain = made.__func__ if name in CLASS_METHODS else made
        first = list(inspect.signature(plain).parameters)[0]
        self.assertEqual(first, "cls" if name in CLASS_METHODS else "self")
        behind = str(inspect.signature(plain)).replace(first + ", ", "", 1).replace(first, "", 1)
        self.assertEqual(name + behind, entry)
