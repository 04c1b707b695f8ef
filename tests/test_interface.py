"""The names and the arguments of the interface, each one defined in the file under which the document lists it."""

import importlib
import inspect
import unittest

FUNCTIONS = """
plain play(system, store, answers, steps)
webs web(system, unit, side, families, view)
plans corners_by(system, unit, store, side, view, plan)
plans families(system, unit, side, view)
plans value(system, unit, store, side, payoff)
plans forced(system, unit, store, side, payoff)
plans held(system, unit, store, side, payoff)
plans is_forced(system, unit, store, side, payoff, value)
plans is_held(system, unit, store, side, payoff, value)
meets stands_for(system, unit, body, side)
meets paper_for(system, unit, body, side)
meets is_paper_for(system, unit, body, side, value)
meets harm(system, unit, body, side)
meets harm_paper(system, unit, body, side)
meets is_harm_paper(system, unit, body, side, value)
code is_code(value)
code lines_of(code)
code read_code(lines)
running settled(space, code, at, store)
running question(code, at)
running answered(space, code, at, store, answer)
compiler compiled(system, unit, body)
compiler row_numbers(system, unit, body)
bundles doors(system, bodies)
bundles bundle_paper(system, bodies, side)
bundles is_bundle_paper(system, bodies, side, value)
registry read_registry(lines)
"""

CLASSES = """
webs Web is_row(value)
webs Web first(store)
webs Web owner(row)
webs Web moves(row)
webs Web behind(row, outcome)
webs Web rows_from(place)
webs Web frame_rows(place)
code Code __init__(rows)
code Code __eq__(other)
machine Shelf __init__(system)
machine Shelf published()
machine Shelf standing(unit)
machine Shelf stand(unit, number)
machine Shelf editions(unit)
machine Shelf body_at(unit, number)
machine Shelf code_at(unit, number)
machine Shelf exchange(unit, body)
machine Shelf exchange_all(bodies)
machine Shelf bundle_of(unit, number)
machine Shelf called(unit, number, other)
machine Session __init__(shelf, store, *, is_published=False)
machine Session asks()
machine Session choose(label)
machine Session spin(part)
machine Session turn(part)
machine Session go(*, is_published=False)
machine Session frames()
machine Session places()
machine Session move(number, place)
machine Session move_waiting(at, number, place)
machine Session lines()
registry Registry __init__(system, promised)
registry Registry promised()
registry Registry exchange(unit, body)
registry Registry paper(unit, number)
registry Registry exchange_at(unit, body, price)
registry Registry harms(unit, number)
registry Registry exchange_all(bodies)
registry Registry lines()
registry Registry __eq__(other)
house House __init__(registry)
house House begin(store, purses=None)
house House sessions()
house House has(value)
house House step(session, answer=None)
house House purses_left(session)
house House asks(session)
house House lines(session)
house House store_now(session)
house House start_of(session)
house House frames(session)
house House move(session, number, place)
house House move_waiting(session, at, number, place)
house House unused()
"""


class Interface(unittest.TestCase):
    def test_functions(self):
        for line in FUNCTIONS.strip().splitlines():
            module, told = line.split(" ", 1)
            name = told.split("(")[0]
            found = getattr(importlib.import_module(f"evenpatch.{module}"), name)
            self.assertEqual(found.__module__, f"evenpatch.{module}")
            self.assertEqual(name + str(inspect.signature(found)), told)

    def test_methods(self):
        for line in CLASSES.strip().splitlines():
            module, word, told = line.split(" ", 2)
            name = told.split("(")[0]
            found = getattr(importlib.import_module(f"evenpatch.{module}"), word)
            self.assertEqual(found.__module__, f"evenpatch.{module}")
            self.assertIn(name, vars(found))
            signature = str(inspect.signature(vars(found)[name])).replace("(self, ", "(").replace("(self)", "()")
            self.assertEqual(name + signature, told)


if __name__ == "__main__":
    unittest.main()
