"""[1] and the interface: names, arguments, and where they are defined."""

import importlib
import inspect
import unittest

CLASSES = {
    "kinds": {"Kinds": ("plus times", {"plus": "", "times": "", "words": "", "add": "first second",
                                       "multiply": "first second", "__eq__": "other"})},
    "rules": {"Rule": ("kinds left right", {"kinds": "", "left": "", "right": "", "__eq__": "other"})},
    "terms": {"Book": ("rule things", {"rule": "", "things": "", "__eq__": "other"})},
    "valued": {"World": ("plus times kinds holding", {"plus": "", "times": "", "kinds": "", "holding": "", "words": "",
                                                      "__eq__": "other"})},
    "programs": {"Program": ("book lines", {"book": "", "lines": "", "__eq__": "other"})},
    "bench": {"Bench": ("book", {
        "put": "term", "take": "spot", "spots": "", "term_there": "spot", "aim_there": "spot", "full_there": "spot",
        "spread": "spot term", "gather": "spot term", "fill": "spot", "aim": "spot term", "let_go": "spot",
        "is_met": "spot", "way": "spot", "is_way": "spot value", "add": "one other", "multiply": "one other",
        "alike_spots": "spot", "most_copied": "", "trial": "", "attempt": "action", "copy": "", "undo": "", "redo": "",
        "record": "",
    })},
}
FUNCTIONS = {
    "kinds": {
        "is_plus_table": "value", "is_times_table": "value", "sum_kind": "kinds row", "product_kind": "kinds row",
        "opposite": "kinds", "renamed": "kinds sent", "can_be_left": "kinds", "can_be_right": "kinds",
    },
    "rules": {
        "both_ways": "kinds word triples", "whole_rule": "kinds", "rule_with": "rule left right",
        "rule_without": "rule left right", "meet_rule": "one other", "union_rule": "one other",
        "is_within": "one other", "mirrored_rule": "rule", "renamed_rule": "rule sent",
        "parting_triple": "one other", "is_parting_triple": "one other value",
    },
    "terms": {
        "is_term": "book value", "text_of": "term", "term_of": "text", "parts_of": "book term", "kind_of": "book term",
        "sum_of": "book terms", "product_of": "book terms", "inner_terms": "book term", "depth": "book term",
        "put_in": "book term sent", "mirrored_book": "book", "mirrored_term": "book term", "with_things": "book sent",
        "term_sent": "book term sent",
    },
    "wholes": {
        "words_of": "book term", "many_words": "book term", "word_things": "book term",
        "have_like_words": "book one other", "parting_word": "book one other", "whole_of": "book term",
        "is_whole": "book term", "is_small": "book term",
    },
    "spreads": {
        "spreads": "book term", "gatherings": "book term", "many_things": "book term", "copied": "book term outcome",
        "is_spread": "book term value", "is_gathering": "book term value", "cases": "book term",
        "cases_of": "book term outcome", "lacking": "book term",
    },
    "shapes": {
        "shapes": "", "shape_term": "rule number row", "is_settled": "rule", "unsettled": "rule",
        "is_unsettled": "rule value", "settled_within": "rule", "are_settled_beside": "rule left right",
    },
    "fulls": {
        "is_full": "book term", "full_spreads": "book term", "full_spread": "book term", "copied_things": "book term",
        "spreading": "book term", "is_spreading": "book term value", "fewest_spreads": "book term",
        "most_spreads": "book term", "shortest_spreading": "book term", "is_shortest_spreading": "book term value",
        "kept_sums": "book term", "summands_kept": "book term",
    },
    "kin": {
        "are_kin": "book one other", "chain": "book one other", "is_chain": "book one other value",
        "is_closed": "book value", "apart_paper": "book one other", "is_apart_paper": "book one other value",
        "beside": "book term", "is_alone": "book term", "kin_by": "book rule one other",
    },
    "worlds": {
        "coming": "book term", "world_of": "book term", "told_value": "book term", "telling_world": "book one other",
        "is_telling_world": "book one other value", "world_size": "book term",
    },
    "justrule": {
        "own_tuples": "rule", "own_size": "rule", "own_world": "rule", "triple_terms": "book word triple",
        "own_inputs": "book",
    },
    "classes": {
        "class_of": "book term", "class_size": "book term", "by_things": "book term", "class_at": "book term number",
        "class_place": "book one other", "fewest_steps": "book one other", "shortest_chain": "book one other",
        "is_shortest_chain": "book one other value", "farthest": "book term", "fewest_things": "book term",
        "parted": "book term rule", "linking": "book one other",
    },
    "prices": {
        "times_signs": "book term", "plus_signs": "book term", "price": "book prices term",
        "least_price": "book prices term", "cheapest": "book prices term", "is_cheapest": "book prices term value",
        "many_by_price": "book prices term", "way_to_cheapest": "book prices term",
        "is_way_to_cheapest": "book prices term value", "fewest_times": "book term", "fewest_signed": "book term",
        "is_fewest_signed": "book term value", "many_by_signs": "book term",
    },
    "valued": {
        "parting_values": "world word triple", "are_parting_values": "world word triple value", "fits": "world rule",
        "rule_of": "world", "are_inputs": "world book value", "value_of": "world book inputs term",
        "same_always": "world book one other", "parting_inputs": "world book one other",
        "are_parting_inputs": "world book one other value", "alike_terms": "world book terms", "mirrored_world": "world",
    },
    "ends": {
        "is_end": "book term", "why_no_end": "book term", "is_why_no_end": "book term value", "gathered": "book term",
        "is_gathered": "book term value", "ends_reached": "book term", "all_ends": "book term",
        "many_ends": "book term", "missed_ends": "book term", "has_one_end": "book term", "fewest_ends": "book term",
    },
    "struck": {
        "common": "book one other", "struck": "book one other", "kin_struck": "book one other",
        "frees": "book one other third", "freeing_things": "book one other", "hides": "book one other thing word",
        "hiding_things": "book one other", "kin_pairs": "book terms", "pairs_with": "book terms third",
    },
    "programs": {
        "result_of": "program", "terms_of": "program", "sorts_of": "program", "signs_in": "program",
        "trimmed": "program", "merged": "program", "program_of": "book term", "is_program_of": "book term value",
        "fewest_lines": "book term", "same_everywhere": "one other", "saved": "one other",
        "values_there": "program world inputs",
    },
    "folding": {
        "is_folding": "rule value", "all_foldings": "rule", "coarsest": "rule", "telling": "rule one other",
        "is_telling": "rule one other value", "folded_rule": "rule lists", "folded_book": "book lists",
    },
    "bench": {"replayed": "bench record"},
    "scripts": {
        "play": "bench script", "script_text": "script", "read_script": "text", "end_of": "book script",
        "shortened": "book script",
    },
    "papers": {
        "rule_text": "rule", "read_rule": "text", "book_text": "book", "read_book": "text", "chain_text": "terms",
        "read_chain": "text", "triples_text": "triples", "read_triples": "text",
    },
}


def module_called(name):
    return importlib.import_module("kindspreads." + name)


def parameters_of(function):
    return [each.name for each in inspect.signature(function).parameters.values()]


class InterfaceTest(unittest.TestCase):
    def test_functions_and_their_arguments(self):
        for name, functions in FUNCTIONS.items():
            module = module_called(name)
            for function, arguments in functions.items():
                found = vars(module)[function]
                self.assertEqual(parameters_of(found), arguments.split(), function)
                self.assertEqual(found.__module__, module.__name__, function)

    def test_classes_and_their_methods(self):
        for name, classes in CLASSES.items():
            module = module_called(name)
            for each, (arguments, methods) in classes.items():
                found = vars(module)[each]
                self.assertEqual(found.__module__, module.__name__, each)
                self.assertEqual(parameters_of(found), arguments.split(), each)
                for method, told in methods.items():
                    self.assertEqual(parameters_of(vars(found)[method]), ["self"] + told.split(), (each, method))


if __name__ == "__main__":
    unittest.main()
