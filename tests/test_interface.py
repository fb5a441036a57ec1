"""Whether everything that the interface lists is defined where it is listed, with these arguments."""

import importlib
import inspect

from helpers import KeptCase

FUNCTIONS = {
    "spans": ["is_content(value)", "rank(content)", "apart(first, second)"],
    "spantext": ["is_number_text(word)", "content_text(content)", "read_content(word)"],
    "pieces": ["pieces(domain, spans)", "samples(domain, spans, many)"],
    "schema": ["is_name(value)"],
    "rows": ["is_row(table, value)", "picked(table, row, columns)", "replaced(table, row, column, content)",
             "changed_columns(table, old, new)", "row_text(row)"],
    "differ": ["differing_cells(first, second)", "difference(first, second)", "steps(first, second)",
               "agree_on(first, second, area)"],
    "layers": ["between(first, second)"],
    "composing": ["broken_place(first, second)", "least_base(first, second)"],
    "grips": ["layer_area(layer)", "layer_grip(layer)", "sits(layer, store)", "unseated(layer, store)"],
    "carrying": ["carried(layer, store)", "carried_run(layers, store)", "exchangeable(first, second)"],
    "sights": ["sign_of(table, test, row)"],
    "contributions": ["nothing(question)", "shown_contents(question, key, row)",
                      "contribution(question, key, row, sight)", "contributing(question)"],
    "answers": ["answer(question, store, sight)", "combine(question, first, second)", "less(question, whole, part)"],
    "cases": ["cases(table, condition, told=None)"],
    "reach": ["reach_keys(question, told)", "reaching(question, told)"],
    "footprints": ["contributing_keys(question)", "turning_keys(question, column)", "footprint(question)"],
    "witnesses": ["witness(question, cell)", "alike(first, second)", "parted(first, second)", "hiding(question)"],
    "forms": ["differing(first, second)"],
    "formal": ["condition_form(condition, table, key, row)", "formal(question, store)",
               "read_answer(question, forms, sight)"],
    "looks": ["look(question, layer)", "look_between(question, first, second)",
              "changed_by(question, known, seen, sight)"],
    "lookparting": ["parting_sight(first, second)", "disturbance(question, layer)"],
    "told": ["told_signs(question, layer, sight)", "untouched_for(question, layer)"],
    "resting": ["rest_question(question, layer, sight, kept)", "finished(question, layer, sight, heard)"],
    "mending": ["mended(question, layer, sight, kept)", "brought_on(question, layer, sight, kept, store)"],
    "keptparting": ["kept_parting(question, layer, sight, kept)"],
    "transactions": ["independent(first, second)"],
    "running": ["run(history, base, sight, choosers)", "run_in_order(history, order, base, sight, choosers)"],
    "graphs": ["edges(history)", "graph_of(history)"],
    "orders": ["keeps(graph, order)", "first_order(graph)", "orders(graph)", "order_count(graph)"],
    "partings": ["last_writers(history, entry, ahead)", "parting(history, order)"],
    "leaving": ["can_leave(history, numbers)", "leave_parting(history, numbers)", "leave_set(history, numbers)"],
    "versions": ["state_of(log, numbers)", "led_stores(log, store)"],
    "matching": ["misfit(log, order)", "is_matching(log, order)", "first_matching(log)", "matching_orders(log)"],
    "taking": ["taking_misfit(log, number)", "can_take_out(log, number)"],
    "crossing": ["log_of(history, run)", "crossing(layer, transaction)"],
    "rulefeet": ["rule_footprint(rule)", "rule_witness(rule, cell)"],
    "verdicts": ["verdict(rule, layer)", "untouched_keys(layer, table)"],
    "checks": ["checks(rule, layer)", "check_stores(rule, layer)"],
    "jointly": ["break_together(rule, first, second)"],
    "bringing": ["brought(question, layer, store, sight, known)"],
    "reports": ["report(desk)"],
}

CLASSES = {
    ("spans", "Span(pairs=(), *, has_none=False)"): [
        "within(self, other)", "listed(self)", "nearest(self, number)", "shifted(self, by)", "__str__(self)",
        "__eq__(self, other)", "__bool__(self)", "__contains__(self, value)", "__and__(self, other)",
        "__or__(self, other)", "__sub__(self, other)", "__invert__(self)"],
    ("pieces", "Piece(span, colour)"): ["members(self, many)"],
    ("schema", "Table(name, key_span, columns, tests=())"): [
        "domain_of(self, column)", "position_of(self, column)", "view_of(self, test)", "__eq__(self, other)"],
    ("schema", "Schema(tables)"): ["__iter__(self)", "table_of(self, name)", "index_of(self, name)",
                                   "__eq__(self, other)"],
    ("stores", "Store(schema, rows=())"): [
        "__iter__(self)", "__eq__(self, other)", "places(self)", "listed_rows(self, table)", "row(self, table, key)",
        "put(self, table, key, row)", "without(self, table, key)", "written(self, table, key, column, content)"],
    ("parts", "Part(schema, images=())"): [
        "__iter__(self)", "__eq__(self, other)", "places(self)", "told_keys(self, table)", "listed_rows(self, table)",
        "as_store(self)", "tells(self, table, key)", "image(self, table, key)", "agrees(self, store)",
        "laid_on(self, store)", "joined(self, other)"],
    ("areas", "Area(schema, entries=())"): [
        "__iter__(self)", "__eq__(self, other)", "__bool__(self)", "__contains__(self, cell)", "__and__(self, other)",
        "__or__(self, other)", "__sub__(self, other)", "meets(self, other)", "within(self, other)",
        "span_of(self, table, field)", "touched(self, table)", "one(self)", "cells(self)"],
    ("layers", "Layer(schema, changes=())"): [
        "__iter__(self)", "__eq__(self, other)", "__bool__(self)", "__neg__(self)", "__add__(self, other)",
        "places(self)", "images(self, table, key)", "fits(self, store)", "lead(self, store)",
        "inner(self, span, *tables)", "outer(self, span, *tables)"],
    ("sights", "Sight(defaults=(), exceptions=())"): [
        "holds(self, sign)", "turned(self, sign, truth)", "with_told(self, told)", "agrees(self, told)"],
    ("conditions", "Condition()"): [
        "counts(self, table, key, row, sight)", "judge(self, table, key, row, truths)", "leaves(self)",
        "__and__(self, other)", "__or__(self, other)", "__invert__(self)"],
    ("conditions", "Always()"): [],
    ("conditions", "KeyIn(span)"): [],
    ("conditions", "CellIn(column, span)"): [],
    ("conditions", "Unseen(test)"): [],
    ("conditions", "Both(*parts)"): [],
    ("conditions", "Either(*parts)"): [],
    ("conditions", "Not(part)"): [],
    ("questions", "Question(schema, kind, table, shown=(), *, where=None)"): ["narrowed(self, condition)"],
    ("cases", "Case(span, spans, truths, passed)"): ["sample_row(self)"],
    ("forms", "Form(terms=())"): [
        "__add__(self, other)", "__radd__(self, other)", "__sub__(self, other)", "__rsub__(self, other)",
        "__mul__(self, other)", "__rmul__(self, other)", "__neg__(self)", "__eq__(self, other)", "__bool__(self)",
        "coefficient(self, signs)", "sign_list(self)", "when(self, signs)", "under(self, sight)",
        "told(self, sign, truth)"],
    ("formal", "FormTable(entries=())"): [
        "__iter__(self)", "__add__(self, other)", "__sub__(self, other)", "__neg__(self)", "__eq__(self, other)",
        "__bool__(self)", "form_at(self, mark)"],
    ("writes", "Write()"): [],
    ("writes", "SetCell(table, key, column)"): [],
    ("writes", "PutRow(table, key)"): [],
    ("writes", "Sweep(table, span, column)"): [],
    ("transactions", "Transaction(schema, asks=(), writes=())"): ["hearing(self, store, sight)", "effect(self, store, choices)"],
    ("choosers", "Fixed(choices)"): ["__call__(self, transaction, hearing)"],
    ("choosers", "Mixed(seed, factor)"): ["__call__(self, transaction, hearing)"],
    ("running", "Run(turns, stores, hearings, choices)"): [],
    ("histories", "History(schema, entries=())"): ["with_entry(self, transaction, seen)", "without(self, numbers)"],
    ("graphs", "Graph(size, arrows=())"): ["path(self, start, goal)", "ring(self)"],
    ("partings", "Parting(base, sight, choosers, entry, asked, heard, other)"): [],
    ("logs", "Log(schema, entries=())"): ["bears(self, store)", "with_entry(self, asks, seen, layer)", "without(self, number)"],
    ("matching", "Misfit(entry, cell=None, asked=None, sight=None, heard=None, other=None)"): [],
    ("rules", "Rule(schema)"): ["kept_on(self, store)"],
    ("rules", "Within(question, span)"): ["failure(self, store)"],
    ("rules", "Unique(schema, table, column)"): ["failure(self, store)"],
    ("rules", "Refers(schema, table, column, target)"): ["failure(self, store)"],
    ("works", "Work(desk, name, seen, snapshot)"): [
        "hear(self, question)", "set_cell(self, table, key, column, content)", "put_row(self, table, key, row)",
        "sweep(self, table, span, column, content)", "commit(self)", "drop(self)", "as_transaction(self)", "as_layer(self)",
        "__enter__(self)", "__exit__(self, kind, value, trace)"],
    ("desk", "Desk(schema, rules, store, *, sight=None, mode='areas')"): [
        "at(self, version)", "begin(self, name)", "open_works(self)", "keep(self, name, question)", "kept(self, name)",
        "ways(self, name)", "undo(self, name)", "serial(self)", "as_history(self)", "as_log(self)"],
}

PROPERTIES = {("layers", "Layer"): ["old", "new"], ("questions", "Question"): ["heaping"],
              ("desk", "Desk"): ["version", "newest", "names", "kept_names"]}

OFF_THE_CLASS = {
    ("spans", "Span"): ["everything()", "numbers()", "of(*contents)", "read(text)"],
    ("parts", "Part"): ["of(store, places)"],
    ("areas", "Area"): ["of(schema, cells)", "whole(schema)"],
    ("forms", "Form"): ["of(sign)", "whole(number)"],
}


class Interface(KeptCase):
    def found(self, module, name):
        """What a module defines under a name, and does not import."""
        value = vars(importlib.import_module(f"keptbase.{module}"))[name]
        self.assertEqual(value.__module__, f"keptbase.{module}")
        return value

    def test_functions(self):
        for module, listed in FUNCTIONS.items():
            for text in listed:
                name = text.split("(")[0]
                self.assertEqual(name + str(inspect.signature(self.found(module, name))), text)

    def test_classes_and_methods_in_their_own_bodies(self):
        for (module, text), methods in CLASSES.items():
            name = text.split("(")[0]
            kind = self.found(module, name)
            self.assertEqual(name + str(inspect.signature(kind)), text)
            for method in methods:
                own = vars(kind)[method.split("(")[0]]
                self.assertEqual(method.split("(")[0] + str(inspect.signature(own)), method)

    def test_static_and_class_methods(self):
        for (module, name), methods in OFF_THE_CLASS.items():
            kind = self.found(module, name)
            for method in methods:
                word = method.split("(")[0]
                self.assertIn(word, vars(kind))
                self.assertEqual(word + str(inspect.signature(getattr(kind, word))), method)

    def test_properties(self):
        for (module, name), listed in PROPERTIES.items():
            for word in listed:
                self.assertIsInstance(vars(self.found(module, name))[word], property)
