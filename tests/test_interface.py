"""The form of what is handed in and answered, and that every request begins anew."""

import unittest

from request import EXAMPLE, EXAMPLE_ANSWERS, GREATEST, last, making, run, written

from hidelayers.splitter import answers


class Form(unittest.TestCase):
    def test_calls_and_answers_number_by_number(self):
        calls = [
            0, 2, 2, 2, 0,
            1, 2, 10, 5, 0,
            1, 2, 18, 11, 0,
            4, 0, 0,
            5, 2, 2, 3, 0,
            3, 2, 18, 12, 0,
            6, 0, 0,
            6, 2, 18, 10, 0,
            7, 3, 30, 18, 10, 0,
            8, 3, 30, 18, 10, 0,
            8, 1, 30, 0,
            9, 1, 30, 0,
            6, 2, 10, 18, 0,
            2, 1, 10, 0,
        ]
        self.assertEqual(
            answers(calls),
            [1, 0, 1, 1, 1, 2, 5, 2, 18, 11, 10, 5, 3, 0, 2, 2, 1, 11, 1, 0, 1, 17, 1, 1, 1, 1, 1, 0, 1, 17, 1, -22, 1, 1],
        )

    def test_calls_that_search_and_answers_number_by_number(self):
        calls = [
            0, 2, 2, 2, 0,
            1, 2, 10, 5, 0,
            1, 2, 18, 11, 0,
            10, 1, 30, 0,
            10, 1, 0, 0,
            11, 1, 30, 0,
            12, 1, 30, 0,
            13, 1, 30, 0,
            14, 0, 0,
            15, 1, 12, 0,
            16, 3, 0, 1, 36, 0,
            17, 3, 30, 40, 42, 0,
            18, 2, 38, 18, 0,
            19, 2, 30, 38, 0,
            15, 1, 999, 0,
            18, 2, 18, 38, 0,
            10, 1, 61, 0,
        ]
        self.assertEqual(
            answers(calls),
            [1, 0, 1, 1, 1, 2, 3, 2, 18, 10, 1, 0, 1, 2, 1, 5, 1, 1]
            + [13, 12, 0, 5, 5, 11, 11, 16, 16, 22, 22, 27, 22, 22]
            + [1, 30, 1, 22, 1, 45, 1, 2, 1, 38, 1, -33, 1, -2, 1, -22],
        )

    def test_the_document_s_example(self):
        self.assertEqual(run(*EXAMPLE), EXAMPLE_ANSWERS)

    def test_one_call(self):
        self.assertEqual(answers([0, 2, 0, 0, 0]), [1, 0])
        self.assertEqual(answers([9, 1, 0, 0]), [1, -11])

    def test_an_error_is_its_code_alone(self):
        failing = [
            ("set_machine", 10, 0),
            ("add_product", 2, 1),
            ("add_product", 18, 1),
            ("remove_product", 17),
            ("set_price", 17, 1),
            ("plan_value", 17),
            ("fits", 61),
            ("cut_count", 17, 18),
            ("best_value", 61),
            ("create", 10, 0),
            ("best_plan", 61),
            ("waste", 61),
            ("plan_count", 61),
            ("best_plan_count", 61),
            ("least_thickness", 1000),
            ("least_thickness", 12),
            ("value_with_machine", 10, 0, 0),
            ("value_with_product", 18, 1, 0),
            ("layers_of_product", 61, 17),
            ("value_of_two", 61, 0),
        ]
        codes = [
            -22, -22, -17, -2, -2, -22, -22, -33, -22, -22, -22, -22, -22, -22, -22, -33, -22, -17, -2, -22,
        ]
        self.assertEqual(
            run(("create", 0, 0), ("add_product", 18, 11), *failing), [[0], [1]] + [[code] for code in codes]
        )

    def test_whole_numbers_in_a_list(self):
        answered = answers(written(EXAMPLE + [("fits", 3, 18, 10), ("get_products",), ("set_machine", 0, 0)]))
        self.assertIs(type(answered), list)
        self.assertEqual({type(number) for number in answered}, {int})
        for thickness in range(61):
            calls = [
                (name, thickness)
                for name in ("best_plan", "waste", "plan_count", "best_plan_count", "least_thickness")
            ]
            calls += [("layers_of_product", thickness, 10), ("value_of_two", thickness, 60), ("value_table",)]
            calls += [("value_with_machine", 0, 5, thickness), ("value_with_product", 3, 7, thickness)]
            answered = answers(written(making((2, 2), {10: 5, 18: 11}) + calls))
            self.assertEqual({type(number) for number in answered}, {int})

    def test_plans_of_each_length(self):
        for length in range(9):
            plan = [3] * length
            is_plan = length <= 6
            with self.subTest(length=length):
                self.assertEqual(
                    run(
                        ("create", 0, 5),
                        ("add_product", 3, 2),
                        ("plan_value", *plan),
                        ("fits", 18, *plan),
                        ("cut_count", 18, *plan),
                        ("get_products",),
                    )[2:],
                    [
                        [2 * length if is_plan else -22],
                        [1 if is_plan else -22],
                        [min(length, 5) if is_plan else -22],
                        [1, 3, 2],
                    ],
                )

    def test_sixty_calls(self):
        self.assertEqual(run(*[("create", 1, 1), ("best_value", 60)] * 30), [[0], [0]] * 30)
        begin = making((2, 2), {10: 5, 18: 11})
        calls = [("best_plan", 30), ("value_table",), ("least_thickness", 12)] * 19
        table = [12, 0, 5, 5, 11, 11, 16, 16, 22, 22, 27, 22, 22]
        self.assertEqual(run(*begin, *calls), [[0], [1], [2]] + [[2, 18, 10], table, [30]] * 19)

    def test_many_plans(self):
        begin = making((0, 5), {thickness: 1 for thickness in range(3, 9)})
        calls = [
            ("best_plan", 60),
            ("waste", 60),
            ("plan_count", 60),
            ("best_plan_count", 60),
            ("value_table",),
            ("least_thickness", 6),
            ("least_thickness", 999),
            ("value_with_machine", 0, 4, 60),
            ("value_with_product", 9, 2, 60),
            ("value_with_product", 9, 2, 54),
            ("layers_of_product", 60, 8),
            ("value_of_two", 60, 60),
        ]
        answered = [
            [5, 8, 8, 8, 8, 8], [20], [462], [252], [12, 1, 3, 5, 6, 6, 6, 6, 6, 6, 5, 5, 5], [18], [-33], [4], [10],
            [12], [5], [10],
        ]
        self.assertEqual(run(*begin, *calls * 4)[7:], answered * 4)

    def test_greatest_numbers(self):
        begin = [("create", 0, 5), ("add_product", 3, 2)]
        for call, code in (
            (("create", GREATEST, GREATEST), -22),
            (("add_product", GREATEST, GREATEST), -22),
            (("remove_product", GREATEST), -2),
            (("set_price", GREATEST, GREATEST), -2),
            (("set_price", 3, GREATEST), -22),
            (("set_machine", GREATEST, GREATEST), -22),
            (("plan_value", *[GREATEST] * 8), -22),
            (("fits", GREATEST, *[GREATEST] * 8), -22),
            (("cut_count", GREATEST, *[GREATEST] * 8), -22),
            (("best_value", GREATEST), -22),
            (("best_plan", GREATEST), -22),
            (("waste", GREATEST), -22),
            (("plan_count", GREATEST), -22),
            (("best_plan_count", GREATEST), -22),
            (("least_thickness", GREATEST), -22),
            (("value_with_machine", GREATEST, GREATEST, GREATEST), -22),
            (("value_with_product", GREATEST, GREATEST, GREATEST), -22),
            (("layers_of_product", GREATEST, GREATEST), -2),
            (("value_of_two", GREATEST, GREATEST), -22),
        ):
            with self.subTest(call=call):
                self.assertEqual(last(*begin, call), [code])


class Anew(unittest.TestCase):
    def test_same_list_same_answer(self):
        calls = written(EXAMPLE)
        first = answers(calls)
        self.assertEqual(answers(calls), first)
        self.assertEqual(answers(list(calls)), first)

    def test_nothing_is_left_from_the_request_before(self):
        run(*EXAMPLE)
        self.assertEqual(run(("get_products",), ("best_value", 30)), [[-11], [-11]])
        self.assertEqual(last(("create", 2, 2), ("get_products",)), [0])

    def test_what_was_answered_may_be_changed(self):
        calls = written(EXAMPLE)
        first = answers(calls)
        kept = list(first)
        first.clear()
        self.assertEqual(answers(calls), kept)

    def test_the_list_handed_in_stays(self):
        calls = written(EXAMPLE + [("create", 10, 0), ("set_machine", 1, 1), ("remove_product", 10)])
        kept = list(calls)
        answers(calls)
        self.assertEqual(calls, kept)


if __name__ == "__main__":
    unittest.main()
