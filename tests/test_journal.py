"""Replaying logs: [307] and excerptcheck/journal.py in the interface."""

import unittest

import test_house
from excerptcheck import errors
from excerptcheck.house import Clearinghouse
from excerptcheck.journal import replayed
from pipes import COPYING, FOURTH
from samples import ALL, dice_for
from test_house import COMMANDS, FREELY, HALF, RATES, THIRD, state


class Replayed(unittest.TestCase):
    def test_the_example_of_the_interface(self):
        house = Clearinghouse("a", RATES)
        for command in COMMANDS[:6]:
            house.execute(command)
        self.assertEqual(replayed("a", RATES, house.log).accounts, house.accounts)

    def test_the_empty_log(self):
        house = replayed("ab", (("C", 3),), ())
        self.assertEqual(state(house), state(Clearinghouse("ab", (("C", 3),))))
        self.assertEqual((len(house), house.undo()), (0, False))

    def test_the_same_results_and_the_same_state(self):
        house = Clearinghouse("a", RATES)
        results = [house.execute(command) for command in COMMANDS]
        again = Clearinghouse("a", RATES)
        self.assertEqual([again.execute(command) for command in house.log], results)
        self.assertEqual(state(replayed("a", RATES, house.log)), state(house))

    def test_logs_of_houses_in_which_commands_were_undone_or_refused(self):
        house = Clearinghouse("a", RATES)
        for command in COMMANDS:
            house.execute(command)
            if command[0] == "withdraw":
                house.undo()
            with self.assertRaises(errors.Unknown):
                house.execute(("deliver", 7, ()))
        again = replayed("a", RATES, house.log)
        self.assertEqual(state(again), state(house))
        # The new house can be undone like the other one.
        while house.undo():
            self.assertIs(again.undo(), True)
            self.assertEqual(state(again), state(house))
        self.assertIs(again.undo(), False)

    def test_the_new_house_is_another_one(self):
        house = Clearinghouse("a", RATES)
        house.execute(("kind", ALL))
        again = replayed("a", RATES, house.log)
        again.execute(("kind", ALL))
        self.assertEqual((len(house), len(again)), (1, 2))

    def test_the_error_of_the_first_command_that_raises_one(self):
        start = (("kind", ALL), ("pipeline", COPYING), ("consent", "A", FREELY), ("consent", "B", FREELY))
        for log, name, attributes in (
                ((("settle", "Z"), ("kind", FOURTH)), "Unknown", {"name": "Z"}),
                ((("kind", FOURTH), ("settle", "Z")), "TooComplex", {}),
                (start + (("contract", 0, 0, 0), ("settle", "Z")), "FeeTooLow", {"document": ("Aa",)}),
                (start + (("contract", 0, 0, 1000000),), "FeeTooLow", {"document": None}),
                (start[:3] + (("kind", ("empty",)), ("contract", 0, 1, 0), ("consent", "B", ("matches", ("class", False, "", ""))),
                              ("deliver", 0, ())), "Suspended", {"owner": "B", "document": ()}),
                ((("kind", ALL),) * 5, "TooMany", {})):
            with self.assertRaises(getattr(errors, name)) as caught:
                replayed("a", RATES, log)
            self.assertEqual({word: getattr(caught.exception, word) for word in attributes}, attributes)

    def test_other_letters_and_rates(self):
        log = (("kind", ALL), ("pipeline", COPYING), ("consent", "A", HALF), ("consent", "A", THIRD))
        self.assertEqual(replayed("abc", (("A", 0), ("C", 1)), log).terms, (("A", THIRD), ("C", ("share", "C", 0, 1))))
        with self.assertRaises(errors.Unknown):
            replayed("a", (("B", 1),), log)

    def test_random_logs(self):
        runs = test_house.Runs()
        for number in range(10):
            dice = dice_for(f"journal {number}")
            house = runs.run_once(dice, "ab", RATES, 40)[1]
            self.assertEqual(state(replayed("ab", RATES, house.log)), state(house))


if __name__ == "__main__":
    unittest.main()
