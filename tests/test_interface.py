"""The names, parameters and homes of what the document's interface lists, and what all of it keeps to."""

import copy
import importlib
import inspect
import itertools
import unittest

from parlourday.live import Parlour
from parlourday.texts import show_house, show_seats, show_setup, show_tubs

from tests.plain_games import great_game, small_games
from tests.plain_parlour import EAGER, GREAT, SETUP, UNFAIR
from tests.plain_search import small_webs, wide_web
from tests.plain_tubs import READY, SAVING

INTERFACE = {
    "webs": {
        "is_web": "(thing)", "walk_end": "(web, walk)", "nodes_met": "(web)", "walk_apart": "(web, other)",
        "difference": "(web, other)",
    },
    "rings": {
        "mean_most": "(web)", "mean_least": "(web)", "ring_most": "(web)", "ring_least": "(web)",
        "ring_shows": "(web, fraction, thing)", "means_from": "(web)",
    },
    "numbers": {
        "caps": "(web, fraction, thing)", "bears": "(web, fraction, thing)",
        "numbers_for": "(web, fraction, *, least=False)", "cap_numbers": "(web)", "bear_numbers": "(web)",
        "tight_moves": "(web, *, least=False)", "room_of": "(web, node, index)", "sum_most": "(web)",
        "sum_walk": "(web)", "sums_after": "(web, count)",
    },
    "games": {
        "held": "(game, owner, way)", "game_mean": "(game)", "house_way": "(game)", "guests_way": "(game)",
        "game_values": "(game)", "game_paper": "(game, owner)", "game_shows": "(game, owner, fraction, thing)",
        "game_needs": "(game, fraction)", "game_turned": "(game)", "game_steps": "(game, count)",
        "steps_lines": "(game, count)", "steps_play": "(game, count)",
    },
    "setups": {"is_setup": "(thing)", "is_seats": "(thing)", "all_comers": "(setup)"},
    "seats": {
        "seats_of": "(setup, seats, row)", "seats_after": "(setup, seats, row)", "seats_met": "(setup, seats)",
        "seats_web": "(setup, seats, what)", "asked_rows": "(setup, seats, count)",
    },
    "waits": {
        "seated_curve": "(setup, seats, count)", "longest_wait": "(setup, seats)",
        "wait_ring": "(setup, seats, what)", "wait_ring_holds": "(setup, seats, what, thing)",
        "quiet_beats": "(setup, seats)", "seats_apart": "(setup, seats, other)", "seats_classes": "(setup, seats)",
        "needless_rows": "(setup, seats)", "lean_seats": "(setup, seats)", "row_asking": "(setup, seats, asking)",
    },
    "tubs": {
        "is_tubs": "(thing)", "tubs_of": "(setup, tubs, asking)", "tubs_after": "(setup, tubs, asking)",
        "tubs_met": "(setup, tubs)", "tubs_web": "(setup, tubs, what)", "open_for": "(setup, deed, number)",
        "never_short": "(setup, tubs)", "never_melts": "(setup, tubs)",
    },
    "tubways": {
        "tub_lives": "(setup, tubs, asking)", "tubs_apart": "(setup, tubs, other)", "trimmed": "(setup, tubs)",
        "tubs_classes": "(setup, tubs)", "askings_counted": "(setup, tubs, openings)",
        "asking_back": "(setup, tubs, openings)", "best_alone": "(setup)", "alone_way": "(setup)",
        "alone_way_holds": "(setup, fraction, thing)", "asked_best": "(setup, asking)",
        "best_openings": "(setup, asking)",
    },
    "house": {
        "is_rule": "(thing)", "bills_of": "(setup, rule, row)", "house_after": "(setup, rule, row)",
        "house_met": "(setup, rule)", "count_of": "(setup, what, bill)", "totals_of": "(setup, rule, row)",
        "house_web": "(setup, rule, what)", "bills_met": "(setup, rule)", "idle_rows": "(setup, rule)",
        "without_idle": "(setup, rule)",
    },
    "longrun": {
        "long_mean": "(setup, rule, what, *, least=False)", "long_ring": "(setup, rule, what, *, least=False)",
        "long_ring_holds": "(setup, rule, what, fraction, thing)",
        "long_paper": "(setup, rule, what, *, least=False)",
        "long_paper_holds": "(setup, rule, what, fraction, thing, *, least=False)",
        "most_after": "(setup, rule, what, beats, *, least=False)",
        "most_row": "(setup, rule, what, beats, *, least=False)", "long_from": "(setup, rule, what, *, least=False)",
        "mean_corners": "(setup, rule, what, other)",
    },
    "halves": {
        "halves": "(setup, rule)", "short_of": "(setup, rule)", "meeting": "(setup, rule)", "safe": "(setup, rule)",
        "least_open": "(setup, seats)", "first_unasked": "(setup, seats)", "reset_row": "(setup, rule)",
    },
    "beside": {
        "alike": "(setup, rule, other)", "greatest_gap": "(setup, rule, other)", "gap_row": "(setup, rule, other)",
        "mean_gap": "(setup, rule, other)", "harm": "(setup, tubs, seats, other)",
        "never_harms": "(setup, tubs, seats, other)", "deafened": "(rule)", "listens": "(setup, rule)",
        "one_more": "(setup, rule)", "one_more_row": "(setup, rule)", "felt_for": "(setup, rule)",
        "gap_paper": "(setup, rule, other)", "gap_paper_holds": "(setup, rule, other, most, thing)",
    },
    "best": {
        "views_met": "(setup)", "best_mean": "(setup)", "best_way": "(setup)", "worst_guests": "(setup)",
        "best_way_holds": "(setup, fraction, thing)", "worst_guests_hold": "(setup, fraction, thing)",
        "best_tubs": "(setup, seats)", "best_seats": "(setup, tubs)", "regret": "(setup, rule)",
        "rule_way": "(setup, rule)", "best_from": "(setup, view)", "kept_deeds": "(setup, view)",
        "best_without": "(setup, what)", "best_steps": "(setup, count)",
    },
    "days": {
        "day_cost": "(setup, rule, beats)", "day_row": "(setup, rule, beats)", "best_day": "(setup, beats)",
        "day_table": "(setup, beats)", "day_table_holds": "(setup, beats, most, thing)", "known_day": "(setup, row)",
        "known_deeds": "(setup, row)", "deeds_cost": "(setup, row, thing)", "day_regret": "(setup, rule, row)",
        "worst_regret": "(setup, rule, beats)", "worst_regret_row": "(setup, rule, beats)",
    },
    "boards": {
        "boards_of": "(setup, rule, row)", "standings_back": "(setup, rule, boards)",
        "row_back": "(setup, rule, boards)", "rows_counted": "(setup, rule, boards)",
        "next_boards": "(setup, rule, boards)", "costs_back": "(setup, rule, boards)",
        "comers_back": "(setup, rule, boards)", "standings_seen": "(setup, rule, boards)",
        "told_apart": "(setup, rule, other, boards)", "boards_counted": "(setup, rule, count)",
        "first_sure": "(setup, rule)", "first_untold": "(setup, rule)", "first_told": "(setup, rule, other)",
        "board_paper": "(setup, rule, other)", "board_paper_holds": "(setup, rule, other, thing)",
    },
    "texts": {
        "show_setup": "(setup)", "show_seats": "(seats)", "show_tubs": "(tubs)", "show_row": "(row)",
        "show_bill": "(bill)", "read_setup": "(text)", "read_seats": "(text)", "read_tubs": "(text)",
        "read_row": "(setup, text)", "show_house": "(setup, rule)", "read_house": "(text)",
    },
    "desk": {"rows_for": "(parlour)"},
}
# The parameters of classes, and those of their methods.
CLASSES = {
    ("live", "Parlour"): ("(setup, rule=((), ()))", {
        "beat": "(self, groups, singles)", "change_seats": "(self, rule)", "change_tubs": "(self, rule)",
        "close": "(self)", "undo": "(self)", "row": "(self)", "bills": "(self)", "closings": "(self)",
        "standing": "(self)", "rule": "(self)", "totals": "(self)", "copy": "(self)", "boards": "(self)",
        "totals_by": "(self, rule)", "ahead": "(self, what, beats)", "ahead_row": "(self, what, beats)",
        "try_rules": "(self, rules, row)",
    }),
    ("desk", "Desk"): ("()", {"say": "(self, row)", "parlour": "(self)"}),
}

# Right values of parameters that are the same for all of them.
VALUES = {
    "thing": ([], [0]), "walk": [0], "fraction": (2, 4), "node": 0, "index": 0, "count": 4, "owner": "house",
    "row": [((1,), 0), ((), 0)] * 9, "asking": [0, 1, 0], "deed": "small", "number": 3, "openings": [(2,), (), ()],
    "bill": ((), 0, 1, (), 0, 0, 0), "beats": 12, "most": 7, "view": ("seat", (), 0, (), 2),
    "boards": [(0, 0, 1), (0, 0, 0)], "parlour": Parlour(SETUP),
}
WORDS = {"waits": "group", "best": "melted"}
# Such as some modules take no greater ones, and some that are right for no other ones.
FEWER = {"days": {"beats": 2, "row": [((), 0), ((), 0)] * 5, "thing": [("go", "rest"), ("go", "small", "rest")] * 5}}
SMALLER = (2, (2,), (1, 1), (1, 1), (1, 3), 2, (2, 3, 4, 1))


def functions():
    for module, names in INTERFACE.items():
        for name in names:
            yield module, name, getattr(importlib.import_module(f"parlourday.{module}"), name)


def subjects(module):
    """Some right values of the parameters that a module's functions are about."""
    if module in ("webs", "rings", "numbers"):
        return [{"web": web, "other": web} for web in [*small_webs(41, 10), wide_web(42)]]
    if module == "games":
        games = [*small_games(43, 10), great_game(44)]
        return [{"game": game, "way": tuple(0 if owner == "house" else None for owner in game[0])} for game in games]
    found = []
    setups = [SETUP, SMALLER] if module in ("best", "days") else [SETUP, GREAT]
    for setup, seats, tubs in itertools.product(setups, [EAGER, UNFAIR], [SAVING, READY]):
        others = {"tubways": SAVING, "longrun": "away", "beside": (UNFAIR, ()), "boards": (UNFAIR, ())}
        found.append({
            "setup": setup, "seats": seats, "tubs": tubs, "rule": (seats, tubs), "other": others.get(module, UNFAIR),
            "what": WORDS.get(module, "cost"), **FEWER.get(module, {}),
        })
    return found


def arguments(function, subject):
    values = {**VALUES, **subject}
    if function.__name__ in ("harm", "never_harms"):
        values["other"] = UNFAIR
    if function.__name__ in ("worst_guests_hold", "best_way_holds", "day_table_holds"):
        values["thing"] = []
    if function.__module__ == "parlourday.texts" and "text" in inspect.signature(function).parameters:
        texts = {
            "read_setup": lambda: show_setup(values["setup"]), "read_seats": lambda: show_seats(values["seats"]),
            "read_tubs": lambda: show_tubs(values["tubs"]), "read_row": lambda: "1+0 -+0 2+0",
            "read_house": lambda: show_house(values["setup"], values["rule"]),
        }
        values["text"] = texts[function.__name__]()
    return {
        name: copy.deepcopy(values[name]) for name, parameter in inspect.signature(function).parameters.items()
        if parameter.kind is parameter.POSITIONAL_OR_KEYWORD
    }


def spoil(found):
    """Change all lists of what was returned."""
    if isinstance(found, (list, tuple)):
        for part in found:
            spoil(part)
    if isinstance(found, list):
        found.append(None)


class Interface(unittest.TestCase):
    def test_each_is_defined_in_its_file_with_its_parameters(self):
        for module, name, function in functions():
            with self.subTest(name):
                self.assertTrue(inspect.isfunction(function))
                self.assertEqual(function.__module__, f"parlourday.{module}")
                self.assertEqual(function.__name__, name)
                self.assertEqual(str(inspect.signature(function)), INTERFACE[module][name])

    def test_classes_and_their_methods(self):
        for (module, name), (parameters, methods) in CLASSES.items():
            found = getattr(importlib.import_module(f"parlourday.{module}"), name)
            self.assertEqual((found.__module__, found.__name__), (f"parlourday.{module}", name))
            self.assertEqual(str(inspect.signature(found)), parameters)
            for method, expected in methods.items():
                self.assertEqual(str(inspect.signature(vars(found)[method])), expected)

    def test_by_position_and_by_name_and_again(self):
        for module, name, function in functions():
            for subject in subjects(module):
                values = arguments(function, subject)
                before = copy.deepcopy(values)
                with self.subTest(name):
                    found = function(**values)
                    self.assertEqual(found, function(*values.values()))
                    self.assertEqual(values, before)
                    kept = copy.deepcopy(found)
                    spoil(found)
                    self.assertEqual(values, before)
                    self.assertEqual(function(**values), kept)


if __name__ == "__main__":
    unittest.main()
