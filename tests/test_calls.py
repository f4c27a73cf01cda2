"""The calls on one object: what they answer, what they leave as it was, how their list is read."""

import unittest

from helper import (
    END, EXAMPLE, RICH, answers, ask, call, code, every_call, example_text, ins, judged, load, piece, read, same, shape,
    to_bytes, to_text,
)

ASKED = every_call(RICH)


class Held(unittest.TestCase):
    def test_rich_code_is_good(self):
        self.assertEqual(judged(RICH), [0])

    def test_counts(self):
        # 64, 64, 64 (one cell), 64, 192 (24 cells of 8), 0 (no cells), 64
        self.assertEqual(ask(load(to_bytes(RICH)), [3])[1], [0, 7, 2, 2, 2, 3, 7, 14, 512])

    def test_counts_of_least_code(self):
        self.assertEqual(ask(load(to_bytes(code())), [3])[1], [0, 0, 0, 0, 0, 0, 1, 1, 0])

    def test_slot(self):
        found = ask(load(to_bytes(RICH)), *[[4, number] for number in range(6)], [4, 7], [4, 4294967295])[1:]
        self.assertEqual(found, [
            [0, 9, 4], [0, 9, 4], [0, 3], [0, 0, 2, 3], [0, 12, 1, 2, 3, 4], [0, 9, 3, 0], [-4], [-4],
        ])

    def test_name(self):
        found = ask(load(to_bytes(RICH)), [5, 0], [5, 1], [5, 2], [5, 4294967295])[1:]
        self.assertEqual(found, [[0, 120], [0] + [255, 1] * 16, [-4], [-4]])

    def test_at(self):
        found = ask(load(to_bytes(RICH)), [6, 0, 0], [6, 0, 1], [6, 0, 5], [6, 1, 0], [6, 2, 1], [6, 2, 3])[1:]
        self.assertEqual(found, [
            [0, 24, 0, 0, 1, 0, 0, 0, 0, 0, 1, 0], [0, 19, 0, 0, 0, 7, 0, 0, 0, 4294967295, 3, 5],
            [0, 17, 0, 0, 0, 0, 0, 0, 0, 0, 18446744073709551615, 0], [0, 16, 0, 63, 1, 0, 255, 0, 0, 0, 0, 0],
            [0, 20, 0, 0, 0, 0, 0, 0, 0, 0, 2, 3], [0] * 12,
        ])

    def test_at_tells_each_field_in_its_place(self):
        body = [ins("two", kind=8, mask=1, aux=19, dst=2, a=3, b=4, where=5), ins("choose", dst=6, a=7, b=8, c=9),
                ins("skip", to=3, where=16909060), END]
        told = code(pieces=[piece(body=body)])
        found = ask(read(to_text(told)), [6, 1, 0], [6, 1, 1], [6, 1, 2])[1:]
        self.assertEqual(found, [
            [0, 4, 8, 1, 19, 2, 3, 4, 0, 5, 0, 0], [0, 11, 0, 0, 0, 6, 7, 8, 9, 0, 0, 0],
            [0, 18, 0, 0, 0, 0, 0, 0, 0, 16909060, 0, 3],
        ])

    def test_at_where_there_is_none(self):
        asked = ([6, 0, 7], [6, 1, 3], [6, 2, 4], [6, 3, 0], [6, 4294967295, 0], [6, 0, 4294967295])
        self.assertEqual(ask(load(to_bytes(RICH)), *asked)[1:], [[-4]] * 6)

    def test_loaded_and_read_answer_alike(self):
        for told in (EXAMPLE, RICH, code()):
            loaded = ask(load(to_bytes(told)), *ASKED)
            self.assertEqual(ask(read(to_text(told)), *ASKED), loaded)


class Refused(unittest.TestCase):
    def test_no_code_is_held_at_first(self):
        every = [[3], [4, 0], [5, 0], [6, 0, 0], [7, 0, 0], [8, 0], [9, 0], [10], [11], [12, 2, 1, 2], [12, 0]]
        every += [same(to_bytes(EXAMPLE)), same(to_bytes(code(main=[]))), [7, 9, 9], [8, 4294967295], [9, 4294967295]]
        self.assertEqual(ask(*every), [[-8]] * len(every))

    def test_refused_code_is_not_held(self):
        refused = [load([]), read(""), load(to_bytes(code(main=[]))), read(to_text(code(main=[])))]
        found = ask(*refused, *ASKED)
        self.assertEqual(found[:4], [[-2, 1, 0], [-5], [-2, 5, 0], [-2, 5, 0]])
        self.assertEqual(found[4:], [[-8]] * len(ASKED))

    def test_what_is_refused_leaves_what_was_held(self):
        bad = [
            code(slots=[shape(13)]), code(calls=[call(1, 10, 3, results="s0")]), code(main=[ins("place"), END]),
            code(main=[END, END]),
        ]
        refused = [load([76]), load(to_bytes(code()) + [0]), read("code 0\n"), read("code 0\nmain\nend\n")]
        refused += [load(to_bytes(one)) for one in bad] + [read(to_text(one)) for one in bad]
        refused += [same(to_bytes(one)) for one in bad] + [same([]), same(list(example_text().encode()))]
        refused += [[4, 99], [5, 99], [6, 0, 99], [6, 9, 0], [7, 9, 0], [8, 99], [9, 9]]
        before = ask(load(to_bytes(RICH)), *ASKED)[1:]
        for one in refused:
            after = ask(load(to_bytes(RICH)), one, *ASKED)
            self.assertIn(after[1][0], (-2, -4, -5))
            self.assertEqual(after[2:], before)
        after = ask(read(to_text(RICH)), *refused, *ASKED)
        self.assertEqual(after[1 + len(refused):], before)

    def test_what_is_good_takes_the_place_of_what_was_held(self):
        found = ask(load(to_bytes(RICH)), read(example_text()), [3], load(to_bytes(code())), [3])
        self.assertEqual(found[2], [0, 2, 1, 0, 1, 1, 3, 11, 128])
        self.assertEqual(found[4], [0, 0, 0, 0, 0, 0, 1, 1, 0])


class Lists(unittest.TestCase):
    def test_no_calls(self):
        self.assertEqual(answers([]), [])

    def test_how_many_numbers_stand_before_the_answer(self):
        self.assertEqual(answers([3] + load([]) + load(to_bytes(code())) + [4, 0, 3]),
                         [1, -8, 3, -2, 1, 0, 1, 0, 1, -4, 9, 0, 0, 0, 0, 0, 0, 1, 1, 0])

    def test_each_call_takes_its_own_numbers(self):
        asked = [[7, 3, 3], [3], [8, 3], [3], [9, 3], [3], [10], [3], [11], [3], [12, 3, 3, 3, 3], [3], [12, 0], [3]]
        self.assertEqual(ask(*asked, load([])), [[-8]] * len(asked) + [[-2, 1, 0]])
        counts = [0, 0, 0, 0, 0, 0, 1, 1, 0]
        found = ask(load(to_bytes(code())), *asked)[1:]
        self.assertEqual(found[1::2], [counts] * 7)
        self.assertEqual(found[0:6:2] + found[10::2], [[-4], [-4], [-4], [-2, 1, 0], [-2, 1, 0]])

    def test_answers_of_one_number_and_of_more(self):
        told = answers(load(to_bytes(EXAMPLE)) + [7, 1, 5, 7, 1, 9, 8, 1, 9, 1] + same(to_bytes(EXAMPLE)) + [7, 9, 9])
        self.assertEqual(told, [1, 0, 2, 1, 2, 1, 0, 1, 2, 1, 8, 1, 1, 1, -4])

    def test_three_hundred_calls(self):
        text = read(example_text())
        found = ask(*[text] * 60, *[[3]] * 240)
        self.assertEqual(found, [[0]] * 60 + [[0, 2, 1, 0, 1, 1, 3, 11, 128]] * 240)

    def test_what_is_handed_in_is_not_changed(self):
        class Watched(list):
            """A list that refuses each change."""

            def refuse(self, *given, **named):
                raise AssertionError("the list handed in was changed")

            append = clear = extend = insert = pop = remove = reverse = sort = refuse
            __setitem__ = __delitem__ = __iadd__ = __imul__ = refuse

        given = load(to_bytes(RICH)) + load([76, 87]) + read(example_text()) + read("code") + [3, 4, 0, 5, 0, 6, 0, 0]
        given += [7, 0, 0, 8, 0, 9, 1, 10, 11] + same(to_bytes(RICH)) + same(to_bytes(EXAMPLE)) + same([1, 2])
        watched = Watched(given)
        answers(watched)
        self.assertEqual(list(watched), given)

    def test_nothing_is_kept_from_one_time_to_the_next(self):
        given = load(to_bytes(RICH)) + [number for one in ASKED for number in one]
        first = answers(given)
        self.assertEqual(answers([3, 10, 11] + same(to_bytes(RICH))), [1, -8] * 4)
        self.assertEqual(answers(given), first)

    def test_answers_are_whole_numbers(self):
        told = answers(load(to_bytes(RICH)) + [number for one in ASKED for number in one] + read("") + load([]))
        self.assertEqual({kind.__name__ for kind in map(type, told)}, {"int"})
        self.assertIs(type(told), list)


if __name__ == "__main__":
    unittest.main()
