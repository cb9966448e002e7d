"""The form of what is handed in and answered, and that every request begins anew."""

import unittest

from request import EXAMPLE, GREATEST, last, run, written

from hidelayers.splitter import answers


class Form(unittest.TestCase):
    def test_calls_and_answers_number_by_number(self):
        calls = [
            0, 2, 2, 2, 0,
            1, 2, 10, 5, 0,
            1, 2, 18, 11, 0,
            4, 0, 0,
            5, 2, 2, 3, 0,
            3, 2, 18, 12, 0,
            6, 0, 0,
            6, 2, 18, 10, 0,
            7, 3, 30, 18, 10, 0,
            8, 3, 30, 18, 10, 0,
            8, 1, 30, 0,
            9, 1, 30, 0,
            6, 2, 10, 18, 0,
            2, 1, 10, 0,
        ]
        self.assertEqual(
            answers(calls),
            [1, 0, 1, 1, 1, 2, 5, 2, 18, 11, 10, 5, 3, 0, 2, 2, 1, 11, 1, 0, 1, 17, 1, 1, 1, 1, 1, 0, 1, 17, 1, -22, 1, 1],
        )

    def test_one_call(self):
        self.assertEqual(answers([0, 2, 0, 0, 0]), [1, 0])
        self.assertEqual(answers([9, 1, 0, 0]), [1, -11])

    def test_an_error_is_its_code_alone(self):
        failing = [
            ("set_machine", 10, 0),
            ("add_product", 2, 1),
            ("add_product", 18, 1),
            ("remove_product", 17),
            ("set_price", 17, 1),
            ("plan_value", 17),
            ("fits", 61),
            ("cut_count", 17, 18),
            ("best_value", 61),
            ("create", 10, 0),
        ]
        self.assertEqual(
            answers(written([("create", 2, 2), ("add_product", 18, 11)] + failing)),
            [1, 0, 1, 1] + [1, -22, 1, -22, 1, -17, 1, -2, 1, -2, 1, -22, 1, -22, 1, -33, 1, -22, 1, -22],
        )

    def test_whole_numbers_in_a_list(self):
        answered = answers(written(EXAMPLE + [("fits", 3, 18, 10), ("get_products",), ("set_machine", 0, 0)]))
        self.assertIs(type(answered), list)
        self.assertEqual({type(number) for number in answered}, {int})

    def test_plans_of_each_length(self):
        for length in range(9):
            plan = [3] * length
            is_plan = length <= 6
            with self.subTest(length=length):
                self.assertEqual(
                    run(
                        ("create", 0, 5),
                        ("add_product", 3, 2),
                        ("plan_value", *plan),
                        ("fits", 18, *plan),
                        ("cut_count", 18, *plan),
                        ("get_products",),
                    )[2:],
                    [
                        [2 * length if is_plan else -22],
                        [1 if is_plan else -22],
                        [min(length, 5) if is_plan else -22],
                        [1, 3, 2],
                    ],
                )

    def test_sixty_calls(self):
        self.assertEqual(run(*[("create", 1, 1), ("best_value", 60)] * 30), [[0], [0]] * 30)

    def test_greatest_numbers(self):
        begin = [("create", 0, 5), ("add_product", 3, 2)]
        for call, code in (
            (("create", GREATEST, GREATEST), -22),
            (("add_product", GREATEST, GREATEST), -22),
            (("remove_product", GREATEST), -2),
            (("set_price", GREATEST, GREATEST), -2),
            (("set_price", 3, GREATEST), -22),
            (("set_machine", GREATEST, GREATEST), -22),
            (("plan_value", *[GREATEST] * 8), -22),
            (("fits", GREATEST, *[GREATEST] * 8), -22),
            (("cut_count", GREATEST, *[GREATEST] * 8), -22),
            (("best_value", GREATEST), -22),
        ):
            with self.subTest(call=call):
                self.assertEqual(last(*begin, call), [code])


class Anew(unittest.TestCase):
    def test_same_list_same_answer(self):
        calls = written(EXAMPLE)
        first = answers(calls)
        self.assertEqual(answers(calls), first)
        self.assertEqual(answers(list(calls)), first)

    def test_nothing_is_left_from_the_request_before(self):
        run(*EXAMPLE)
        self.assertEqual(run(("get_products",), ("best_value", 30)), [[-11], [-11]])
        self.assertEqual(last(("create", 2, 2), ("get_products",)), [0])

    def test_what_was_answered_may_be_changed(self):
        calls = written(EXAMPLE)
        first = answers(calls)
        kept = list(first)
        first.clear()
        self.assertEqual(answers(calls), kept)

    def test_the_list_handed_in_stays(self):
        calls = written(EXAMPLE + [("create", 10, 0), ("set_machine", 1, 1), ("remove_product", 10)])
        kept = list(calls)
        answers(calls)
        self.assertEqual(calls, kept)


if __name__ == "__main__":
    unittest.main()
