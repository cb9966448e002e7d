"""Before the first create that succeeds there is no splitter; what create makes, keeps and replaces."""

import unittest

from request import GREATEST, NUMBERS, last, run

HOW_MANY = {
    "add_product": 2, "remove_product": 1, "set_price": 2, "get_products": 0, "set_machine": 2, "best_value": 1,
    "best_plan": 1, "waste": 1, "plan_count": 1, "best_plan_count": 1, "value_table": 0, "least_thickness": 1,
    "value_with_machine": 3, "value_with_product": 3, "layers_of_product": 2, "value_of_two": 2,
}
WITH_PLAN = {"plan_value": 0, "fits": 1, "cut_count": 1}


def calls_but_create():
    """Give each call but create, with arguments inside the limits, outside them and far outside them."""
    for argument in (0, 3, 5, 61, GREATEST):
        for name, count in HOW_MANY.items():
            yield (name, *[argument] * count)
        for name, count in WITH_PLAN.items():
            for length in range(9):
                yield (name, *[argument] * (count + length))


class NoSplitter(unittest.TestCase):
    def test_every_call_is_spoken_of(self):
        self.assertEqual({name for name, *rest in calls_but_create()} | {"create"}, set(NUMBERS))

    def test_every_call_but_create(self):
        for call in calls_but_create():
            with self.subTest(call=call):
                self.assertEqual(run(call), [[-11]])

    def test_after_a_create_that_fails(self):
        for machine in ((10, 0), (0, 6), (10, 6), (GREATEST, 0), (0, GREATEST), (GREATEST, GREATEST)):
            with self.subTest(machine=machine):
                self.assertEqual(
                    run(("create", *machine), ("get_products",), ("best_value", 61), ("set_machine", 0, 0)),
                    [[-22], [-11], [-11], [-11]],
                )
        for call in calls_but_create():
            with self.subTest(call=call):
                self.assertEqual(run(("create", 10, 0), call), [[-22], [-11]])

    def test_the_calls_before_create_do_nothing(self):
        self.assertEqual(
            run(("add_product", 10, 5), ("set_machine", 9, 1), ("create", 2, 3), ("get_products",), ("set_machine", 0, 0)),
            [[-11], [-11], [0], [0], [0, 2, 3]],
        )


class Create(unittest.TestCase):
    def test_limits(self):
        for machine in ((0, 0), (9, 0), (0, 5), (9, 5)):
            with self.subTest(machine=machine):
                self.assertEqual(run(("create", *machine), ("set_machine", 1, 1)), [[0], [0, *machine]])
        for machine in ((10, 0), (10, 5), (0, 6), (9, 6), (10, 6), (GREATEST, 0), (0, GREATEST)):
            with self.subTest(machine=machine):
                self.assertEqual(run(("create", *machine)), [[-22]])

    def test_without_products(self):
        self.assertEqual(run(("create", 2, 2), ("get_products",), ("best_value", 60)), [[0], [0], [0]])

    def test_replaces_an_existing_one(self):
        self.assertEqual(
            run(
                ("create", 2, 2),
                ("add_product", 10, 5),
                ("create", 3, 4),
                ("get_products",),
                ("plan_value", 10),
                ("add_product", 10, 6),
                ("set_machine", 0, 0),
            ),
            [[0], [1], [0], [0], [-22], [1], [0, 3, 4]],
        )

    def test_keeps_an_existing_one_when_it_fails(self):
        for machine in ((10, 0), (0, 6), (GREATEST, GREATEST)):
            with self.subTest(machine=machine):
                self.assertEqual(
                    run(
                        ("create", 2, 3),
                        ("add_product", 10, 5),
                        ("create", *machine),
                        ("get_products",),
                        ("best_value", 34),
                        ("set_machine", 0, 0),
                    ),
                    [[0], [1], [-22], [1, 10, 5], [15], [0, 2, 3]],
                )

    def test_may_succeed_after_it_failed(self):
        self.assertEqual(last(("create", 10, 6), ("create", 1, 2), ("set_machine", 0, 0)), [0, 1, 2])


if __name__ == "__main__":
    unittest.main()
