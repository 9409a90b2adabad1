"""Each name of the interface that has landed is defined in the file under which it is listed, with its arguments."""

import importlib
import inspect
import unittest

LISTED = {
    "rules": ["Rule(prime, table)", "worth(rule, bits)", "scaled(rule, number)", "turned(rule, many)", "mirrored(rule)",
              "flipped(rule, leg)", "set_leg(rule, leg, bit)", "beside(rule, other)", "closed(rule, leg, other)",
              "joined(rule, leg, other, place)", "ones(prime, legs, worths)"],
    "webs": ["Web(prime, rules, ties, outer)", "plain_sum(web)", "part(web, places)", "pieces(web)", "faces(web)",
             "is_flat(web)"],
    "around": ["with_rule(web, place, rule)", "delta(prime, bits)", "weighed(rule, other)", "around(web, place, bits)"],
    "bases": ["Basis(prime, rows)", "times(basis, other)", "inverse(basis)", "other_side(basis)",
              "changed(rule, basis)", "changed_by(rule, bases)"],
    "alike": ["all_bases(prime)", "plain_basis(basis)", "is_alike(basis, other)"],
    "blame": ["exchanged(web, other, places)", "blame(web, other)"],
    "courses": ["is_course(web, thing)", "course_of(web)", "regions(web, course)", "ring(web, course, region)",
                "region_rule(web, course, region)"],
    "edits": ["is_edit(thing)", "edited(web, edit)"],
    "entries": ["idle(web)", "bound(web, lot)", "is_free(web, lot)"],
    "examples": ["examples()"],
    "identities": ["identity(rule, bits, legs)", "keeps_identities(rule)", "least_broken(rule)"],
    "pfaffians": ["pfaffian(prime, table)"],
    "forms": ["Form(prime, number, flips, table)", "form_worth(form, bits)", "rule_of(form)"],
    "foundforms": ["form_of(rule)", "has_form(rule)"],
    "gaterules": ["pairing_rule(gate)", "flat_rule(gate)"],
    "gatemaking": ["gate_or_bar(rule)"],
    "gatejoins": ["gate_beside(gate, other)", "gate_turned(gate, many)", "gate_flipped(gate, leg)",
                  "gate_tied(gate, leg, number)"],
    "chords": ["chord_rule(prime, points, chords, sign)", "chord_gate(prime, points, chords, sign)"],
    "gatemoves": ["moves_of(gate)", "moved(gate, move)", "settled(gate)", "renewed(gate, leg)"],
    "gatewebs": ["web_gate(web)"],
    "kin": ["kin(rule, other)"],
    "onesrules": ["equations(rule)", "ones_kind(rule)"],
    "lines": ["is_line(web, thing)", "line_of(web)"],
    "bars": ["strands(web)", "is_bar(web, thing)", "bar_of(web)"],
    "lots": ["bases_of(prime, lefts, rights)", "first_basis(prime, lefts, rights)", "bars(prime, lefts, rights)",
             "is_bars(prime, lefts, rights, paper)"],
    "normals": ["normal(form)", "is_normal(form)", "rebased(form, bits)"],
    "bestbits": ["best_bits(form, weights)"],
    "formnumbers": ["how_many_forms(prime, legs)", "form_at(prime, legs, number)", "form_number(form)"],
    "formturns": ["turned_form(form, many)", "mirrored_form(form)", "flipped_form(form, leg)",
                  "scaled_form(form, number)", "set_form_leg(form, leg, bit)"],
    "formjoins": ["beside_forms(form, other)", "closed_form(form, leg)", "joined_forms(form, leg, other, place)"],
    "formsums": ["paired(form, other)", "form_total(form)"],
    "laying": ["laid(web, line)"],
    "boards": ["board_of(web, line)", "board_sum(web, line)"],
    "closings": ["closings(web, line)", "flat_sum(web)", "sum_form(web)"],
    "lumps": ["edge_of(web, places)", "lumped(web, places)"],
    "lives": ["Live(prime)"],
    "drawings": ["drawn(web, course)", "live_of(web, course)"],
    "livelogs": ["log_of(live)", "recovered(text)"],
    "roads": ["road_width(web, road)", "best_road(web)", "is_fence(web, width, thing)", "fence_of(web, width)"],
    "roadsums": ["road_sum(web, road)", "road_counts(web, road)"],
    "ruletexts": ["rule_parts(rule)", "rule_text(rule)", "rules_text(rules)", "form_text(form)"],
    "shares": ["pinned(web, ties, bits)", "share(web, ties, bits)", "shares(web)"],
    "cuts": ["cut_sum(web, ties)", "least_cut(web, most)"],
    "sided": ["sides(web)", "web_changed(web, bases)", "side_changed(web, lefts, basis)", "split(web)"],
    "basissums": ["basis_sum(web, lefts)"],
    "formulas": ["Formula(prime, variables, clauses)", "solutions(formula)", "formula_web(formula)",
                 "formula_sum(formula)"],
    "stops": ["is_stop(rule, numbers)", "stops(rule)", "stops_of(form)", "stopped(prime, rows)"],
    "tiebases": ["keeps_ties(basis)", "all_changed(web, basis)", "tie_bases(prime)"],
    "units": ["unit(prime)"],
    "affine": ["Affine(prime, legs, number, start, ways, powers, pairs)", "affine_worth(form, bits)",
               "affine_rule(form)"],
    "classcounts": ["affine_many(prime, legs)", "product_many(prime, legs)", "short_many(prime, legs)"],
    "foundaffine": ["affine_form(rule)"],
    "affinepapers": ["not_affine(rule)", "is_against_affine(rule, paper)"],
    "products": ["Product(prime, number, bunches)", "product_worth(form, bits)", "product_rule(form)"],
    "foundproducts": ["product_form(rule)", "not_product(rule)", "is_against_product(rule, paper)"],
    "productsums": ["product_beside(form, other)", "product_closed(form, leg, other)", "product_sum(web)"],
    "affineforms": ["affine_beside(form, other)", "affine_closed(form, leg, other)", "affine_set(form, leg, bit)"],
    "affinesums": ["affine_sum(web)"],
    "classbases": ["affine_kinds(prime)", "affine_bases(prime, lefts, rights)", "product_bases(prime, lefts, rights)",
                   "class_basis_sum(web, lefts)"],
    "shorts": ["bunches_of(rule)", "factors(rule)", "short_sum(web)"],
    "classes": ["classes(rules)", "class_sum(web)"],
    "renumbers": ["renumbered(web, order)", "telling(web, place)", "plain_web(web)", "many_renumberings(web, other)",
                  "least_renumbering(web, other)", "places_alike(web)"],
    "legturns": ["legs_turned(web, turns)", "turned_telling(web, place, leg)", "plain_turned(web)",
                 "many_turnings(web, other)", "least_turning(web, other)", "legs_alike(web)"],
    "wants": ["fitting(web, place, wanted)", "barring(web, place, wanted)"],
    "channels": ["across(web, one, other, bits)", "channels(web, one, other, bits)", "parting(web, one, other)",
                 "ways(web, one, other)"],
    "questions": ["is_question(thing)", "answered(web, question)"],
    "benches": ["is_bench_deed(thing)", "Bench(web)"],
    "journals": ["deed_line(deed)", "deed_of_line(text)", "journal(bench)", "taken_up(web, lines)"],
    "desk": ["Desk(web)"],
    "readers": ["rule_of_text(text)", "rules_of_text(text)", "form_of_text(text)", "web_of_text(text)",
                "next_in_rule(text)", "next_in_rules(text)", "next_in_form(text)", "next_in_web(text)"],
    "webtexts": ["web_text(web)"],
    "zeropapers": ["zero_paper(web)", "is_zero_paper(web, paper)"],
    "gates": ["Gate(prime, places, ties, outer)", "gate_web(gate)", "is_flat_gate(gate)"],
}


METHODS = {
    ("lives", "Live"): [
        "web(self)", "course(self)", "region_form(self, region)", "whole_sum(self)", "surrounding(self, region)",
        "facing(self, place)", "share_of(self, tie)", "kept(self)", "made(self)", "add(self, rule)",
        "put(self, place, rule)", "draw(self, one, other, rules)", "drop(self, tie, rules)", "undo(self)",
        "redo(self)", "deeds(self)", "do(self, deed)"],
    ("benches", "Bench"): [
        "do(self, deed)", "undo(self)", "redo(self)", "questions(self)", "answers(self)", "deeds(self)", "undone(self)",
        "what_if(self, deed)"],
    ("desk", "Desk"): ["say(self, line)"],
}


class Interface(unittest.TestCase):
    def test_names_and_arguments(self):
        for stem, listed in LISTED.items():
            module = importlib.import_module("onebasis." + stem)
            for told in listed:
                name = told.split("(")[0]
                thing = getattr(module, name)
                self.assertEqual(thing.__module__, module.__name__)
                self.assertEqual(name + str(inspect.signature(thing)), told)

    def test_methods(self):
        for (stem, name), listed in METHODS.items():
            kind = getattr(importlib.import_module("onebasis." + stem), name)
            for told in listed:
                method = told.split("(")[0]
                self.assertEqual(method + str(inspect.signature(vars(kind)[method])), told)
