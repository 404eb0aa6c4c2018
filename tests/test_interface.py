"""The interface: each name stands in its file, with its arguments, and is defined there."""

import ast
import importlib
import inspect
import pathlib
import unittest

PACKAGE = pathlib.Path(__file__).resolve().parent.parent / "neverheaps"

FUNCTIONS = {
    "forms": (
        "is_integer(thing), is_name(thing), is_fraction(thing), is_works(thing), is_amounts(works, thing), is_crew(works, thing), "
        "is_recipe(works, thing), is_deeds(works, thing), is_sender(works, thing), is_run(sender, thing), is_ring(sender, thing), "
        "is_play(works, sender, run, thing), is_tariff(works, thing), is_shares(works, thing)"
    ),
    "works": (
        "kind_place(works, name), hand_place(works, name), raw_kinds(works), levels(works), renamed_works(works, names), "
        "with_recipe(works, recipe), without_recipes(works, indexes), with_hand(works, name), led_sender(sender, many)"
    ),
    "texts": "show_works(works), show_sender(works, sender), show_run(run)",
    "reader": "read_works(text), read_sender(works, text), read_run(works, sender, text)",
    "play": (
        "after(works, heaps, crew, deeds), can_do(works, heaps, crew, deeds), keeps_rooms(works, sender, run, play, rooms), "
        "played(works, sender, run, play), sums_of(works, sender, run, play)"
    ),
    "orders": "deeds_by(works, order, heaps, crew), order_play(works, sender, order, run), is_order(works, thing)",
    "ends": "ends_of(works, heaps, crew), low_ends(works, heaps, crew)",
    "spans": (
        "shares_for(columns, goal), row_against(columns, goal), least_shares(columns, goal, costs), "
        "dearest_row(columns, goal, costs), edges_of(rows, size)"
    ),
    "tariffs": "worth(tariff, amounts), pay(tariff, crew), is_fair(works, tariff), is_book(works, thing), book_of(works)",
    "ways": (
        "can_work_off(works, amounts, crew), tariff_against(works, amounts, crew), "
        "is_worked_off(works, amounts, crew, thing), is_way(works, thing), ways_of(works)"
    ),
    "rings": "come_to(sender), sum_of(works, sender, indexes), rings_of(sender), gain_of(sender, tariff, indexes)",
    "heights": (
        "greatest_mean(sender, tariff), mean_ring(sender, tariff), mean_heights(sender, tariff), "
        "are_heights(sender, tariff, fraction, thing)"
    ),
    "held": (
        "holds(works, sender), is_why_not(works, sender, thing), is_why(works, sender, thing), why_not(works, sender), "
        "why(works, sender)"
    ),
    "plans": "plan_of(works, sender, ring), row_deeds(works, counts), is_plan(works, sender, ring, thing)",
    "cutting": "cut(sender, run), rounds_of(sender, run)",
    "bounds": "rooms_told(works, sender), load_of(works, sender, ring), batches_most(works, sender)",
    "tables": (
        "safe_positions(works, sender, rooms), table_for(works, sender, rooms), is_table(works, sender, rooms, thing), "
        "are_enough(works, sender, rooms), table_play(works, sender, table, run)"
    ),
    "trees": "tree_against(works, sender, rooms), is_tree(works, sender, rooms, thing)",
    "leastrooms": "least_rooms(works, sender, most)",
    "hindsight": "heaps_in(works, sender, rooms, run), least_hindsight(works, sender, most), breaking_run(works, sender, rooms)",
    "ahead": "keeps_ahead(works, sender, rooms, many), least_ahead(works, sender, rooms)",
    "leastplay": "least_break(works, sender, rooms), lowest_play(works, sender, rooms, run)",
    "against": (
        "bears_all(one, other), are_alike(one, other), way_between(one, other), parting_tariff(one, other), "
        "parting_sender(one, other), joint_works(one, other)"
    ),
    "needless": (
        "works_of(works, lot), needless_recipes(works), least_lots(works), greatest_apart(works, other), "
        "least_bearing(works, other), needless_hands(works)"
    ),
    "wanting": "wanting(works, sender, recipes), bad_rings(works, sender), barring(works, sender, most)",
    "loss": (
        "ring_loss(works, sender, ring, costs), loss_shares(works, sender, ring, costs), least_loss(works, sender, costs), "
        "loss_tariff(works, sender, ring, costs), worst_ring(works, sender, costs), is_loss_shares(works, sender, ring, thing), "
        "is_loss_tariff(works, sender, ring, costs, thing)"
    ),
    "thrower": (
        "throwing_plan(works, sender, ring, costs), thrower_rooms(works, sender, costs), "
        "is_throwing_plan(works, sender, ring, thing)"
    ),
    "factor": "ring_factor(works, sender, ring), least_factor(works, sender), factor_tariff(works, sender, ring)",
    "parts": (
        "is_bringer(sender), is_breaker(sender), bringer_of(sender), breaker_of(sender), either(one, other), "
        "without_arrows(sender, indexes)"
    ),
    "side": (
        "beside(senders), places_at(senders, place), arrows_at(senders, index), holds_apart(works, bringer, breakers), "
        "is_tariff_beside(works, bringer, breakers, thing), tariff_beside(works, bringer, breakers), "
        "least_share(works, breaker, name), greatest_rate(works, bringer, name)"
    ),
    "promises": (
        "at_most_broken(works, name, broken, window), at_most_come(works, name, many, window), "
        "most_broken(works, breaker, name, window), most_come(works, bringer, name, window)"
    ),
    "piles": (
        "pile_run(works, sender, order, rooms), order_rooms(works, sender, order, most), order_keeps(works, sender, order, rooms), "
        "order_positions(works, sender, order, rooms), good_orders(works, sender, rooms)"
    ),
    "apart": (
        "is_apart(works), touching_recipes(works), lots_of(works), at_once_play(works, sender, run), at_once(works, heaps, crew), "
        "least_heaps(works, sender, run)"
    ),
}
ERRORS = (
    "Broken(duty), CannotBeDone(index), Gains(ring, tariff), NeverHelps(ring, tariff), NoArrow(index), NoCommand(), NoDuty(duty), "
    "NoIndex(index), NoLeast(run), NoName(name), NotApart(index), NotEnough(run), NoText(line), Nothing(), Piles(run), TooMany(most), "
    "Used(name), Wrong(place)"
)
METHODS = {
    ("store", "Heaps"): "__init__(works), beat(amounts, crew, deeds), heaps(), beats(), log(), back(), again(), twin()",
    ("tracker", "Tracker"): "__init__(works, sender), beat(index), heaps(), log(), stands_at(), twin()",
    ("thrower", "Thrower"): "__init__(works, sender, costs), beat(index), heaps(), log(), stands_at(), paid(), twin()",
    ("book", "Book"): (
        "__init__(works), send(name, sender), drop(name), free(index), take(index), works(), owe(duty), add(recipe), senders(), "
        "duties(), held(), is_kept(duty), back(), again(), twin(), __eq__(other)"
    ),
    ("desk", "Desk"): "__init__(text), execute(line), book()",
}


def listed(text):
    """The names of the list, each with the names of its arguments."""
    found = {}
    for part in text.split("), "):
        name, _, arguments = part.rstrip(")").partition("(")
        found[name] = [argument for argument in arguments.split(", ") if argument]
    return found


def parsed(module):
    return ast.parse((PACKAGE / (module + ".py")).read_text()).body


class InterfaceTest(unittest.TestCase):

    def test_functions(self):
        for module, text in FUNCTIONS.items():
            here = {part.name: part for part in parsed(module) if isinstance(part, ast.FunctionDef)}
            for name, arguments in listed(text).items():
                self.assertIn(name, here, module)
                self.assertEqual([argument.arg for argument in here[name].args.args], arguments, name)
                self.assertTrue(callable(getattr(importlib.import_module("neverheaps." + module), name)))

    def test_errors(self):
        module = importlib.import_module("neverheaps.errors")
        here = {part.name: part for part in parsed("errors") if isinstance(part, ast.ClassDef)}
        self.assertEqual([base.id for base in here["HeapError"].bases], ["ValueError"])
        for name, arguments in listed(ERRORS).items():
            self.assertEqual([base.id for base in here[name].bases], ["HeapError"])
            if arguments:
                self.assertEqual(list(inspect.signature(getattr(module, name)).parameters), arguments)

    def test_methods(self):
        for (module, name), text in METHODS.items():
            body = [part for part in parsed(module) if isinstance(part, ast.ClassDef) and part.name == name][0].body
            here = {part.name: part for part in body if isinstance(part, ast.FunctionDef)}
            for method, arguments in listed(text).items():
                self.assertEqual([argument.arg for argument in here[method].args.args], ["self"] + arguments, method)


if __name__ == "__main__":
    unittest.main()
