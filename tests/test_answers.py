import contextlib
import io
import unittest

from coneyears.nursery import answers
from tests.asking import ask, begins, best, follow, lift, more, years


class Unchanging(list):
    """A list that tells when something would change it, for a while too."""

    def refuse(self, *given):
        raise AssertionError("what is handed in is changed")

    append = extend = insert = pop = remove = clear = sort = reverse = refuse
    __setitem__ = __delitem__ = __iadd__ = __imul__ = refuse


SEVERAL = (
    begins(2, [10, 0, 0], [20, 5])
    + years((2, 0), (1, 0), (0, 18))
    + follow(1, 1, 0)
    + begins(9, [0, 0, 0], [1])
    + years((9, 9))
    + follow(1)
    + follow(1, 2, 1)
    + lift((1, 0), (1, 0), (0, 18))
    + lift((1, 0))
    + best()
    + more(2, 1)
    + more(3, 0)
    + more(1, 1)
)
SEVERAL_ANSWERED = [
    1, 2, 1, 3, 6, 3, 0, 5, 0, 0, 0, 1, -1, 1, -1, 1, -1, 6, 2, 23, 18, 0, 0, 0,
    1, 3, 1, -1, 5, 1, 1, 1, 0, 0, 5, 1, 1, 2, 0, 0, 1, -2, 1, -3,
]

# A bag gives 10 plants, four are sown in a year at most, and 20 are wanted in each year from year 2 on.
LARGE = (begins(4, [0, 0, 0], [10]), years((8, 0), (8, 0), (8, 20), (8, 20), (8, 20), (8, 20)))


class Answers(unittest.TestCase):
    def test_the_nursery_at_the_beginning(self):
        self.assertEqual(ask(follow()), [[0, 0, 0, 0, 0]])
        self.assertEqual(ask(follow(0)), [[-1]])
        self.assertEqual(ask(years((2, 0)), follow(1), follow(2)), [[1], [1, 1, 0, 0, 0], [0, 0, 0, 0, 0]])
        told = years((1, 0), (1, 0), (0, 0), (0, 1), (0, 0))
        self.assertEqual(ask(told, follow(1, 1, 0, 0, 0), follow(0, 1, 0, 0, 0), follow(0, 1, 1, 0, 0)),
                         [[5], [5, 0, 0, 0, 0], [5, 0, 0, 0, 0], [2, 1, 0, 0, 0]])

    def test_nothing_is_lost_at_the_beginning(self):
        told = [(1, 0), (1, 0), (1, 0)]
        self.assertEqual(ask(years(*told), follow(1, 1, 1)), [[3], [3, 1, 1, 1, 0]])

    def test_each_answer_stands_behind_how_many_numbers_it_has(self):
        self.assertEqual(answers([2, 0, 0]), [5, 0, 0, 0, 0, 0])
        self.assertEqual(answers([2, 1, 7, 0]), [1, -1])
        self.assertEqual(answers([0, 5, 4, 0, 0, 0, 9, 0]), [1, 1])
        self.assertEqual(answers([0, 4, 4, 0, 0, 0, 0]), [1, -1])
        self.assertEqual(answers([1, 0, 0]), [1, 0])
        self.assertEqual(answers([1, 4, 8, 100000, 0, 0, 0]), [1, 2])

    def test_several_calls_one_behind_another(self):
        self.assertEqual(answers(list(SEVERAL)), SEVERAL_ANSWERED)

    def test_how_best_and_more_stand_in_the_list(self):
        self.assertEqual(answers([4, 0, 0]), [2, 0, 1])
        self.assertEqual(answers([5, 2, 0, 0, 0]), [1, -2])
        self.assertEqual(answers([3, 0, 0]), [1, 0])
        self.assertEqual(answers([1, 2, 1, 0, 0, 3, 2, 1, 0, 0, 4, 0, 0, 5, 2, 0, 0, 0, 5, 2, 0, 1, 0]),
                         [1, 1, 1, 1, 3, 0, 1, 0, 3, 0, 1, 0, 1, -3])

    def test_eight_of_best_and_more_among_others(self):
        row = [2, 2, 2, 2, 0, 0]
        lifted = list(zip(row, [0, 0, 20, 20, 20, 20]))
        asked = [best(), follow(*row), more(2, 10), lift(*lifted), more(3, 10), years((9, 0)), more(5, 20),
                 follow(1), best(), begins(5, [0, 0, 0], [1]), more(5, 61), more(5, 100001), lift((1, 1)), more(6, 0)]
        eight = [[8, 27, 2, 2, 2, 2, 0, 0], [6, 0, 0, 0, 0], [1, 18, 3, 2, 2, 2, 0, 0], [6],
                 [1, 24, 2, 3, 2, 2, 0, 0], [-1], [2, 36, 2, 2, 2, 4, 0, 0], [-1], [8, 27, 2, 2, 2, 2, 0, 0], [-1],
                 [-3], [-1], [-1], [-2]]
        self.assertEqual(ask(*LARGE, *asked), [[1], [6]] + eight)

    def test_eight_with_other_years_and_nurseries_between(self):
        other = (begins(1, [0, 0, 0], [10, 10]), years((1, 0), (0, 0), (0, 0), (0, 10)))
        asked = ask(*LARGE, best(), more(5, 20), *other, best(), more(3, 1), years(), best(), more(0, 0),
                    *LARGE, best(), more(5, 20))
        first = [[1], [6], [8, 27, 2, 2, 2, 2, 0, 0], [2, 36, 2, 2, 2, 4, 0, 0]]
        self.assertEqual(asked, first + [[2], [4], [1, 2, 0, 1, 0, 0], [-3], [0], [0, 1], [-2]] + first)

    def test_eight_with_as_many_rows_as_there_can_be(self):
        told = (begins(4, [0, 0, 0], [10, 9, 8, 7]), years(*[(8, 0)] * 6))
        asked = ask(*told, *[more(5, wanted) for wanted in range(1, 9)])
        # The oldest bag gives 8 in year 2, and 7 from year 3 on.
        self.assertEqual(asked[2:], [[1, 2, 0, 0, 0, 1, 0, 0]] * 7 + [[1, 1, 0, 0, 1, 0, 0, 0]])

    def test_sixty_calls(self):
        calls = [years((1, 0)), follow(1)] * 30
        self.assertEqual(ask(*calls), [[1], [1, 1, 0, 0, 0]] * 30)
        calls = calls[:-8] + [best(), more(0, 1)] * 4
        self.assertEqual(ask(*calls), [[1], [1, 1, 0, 0, 0]] * 26 + [[0, 1, 0], [-3]] * 4)

    def test_a_new_nursery_each_time(self):
        fresh = [years((2, 0)), follow(1), follow(2)]
        first = ask(*fresh)
        self.assertEqual(answers(list(SEVERAL)), SEVERAL_ANSWERED)
        self.assertEqual(answers(list(SEVERAL)), SEVERAL_ANSWERED)
        self.assertEqual(ask(follow()), [[0, 0, 0, 0, 0]])
        self.assertEqual(ask(*fresh), first)

    def test_what_is_given_back_is_not_kept(self):
        given = answers([2, 0, 0])
        given.append(99)
        self.assertEqual(answers([2, 0, 0]), [5, 0, 0, 0, 0, 0])

    def test_what_is_handed_in_is_not_changed(self):
        handed = Unchanging(SEVERAL)
        self.assertEqual(answers(handed), SEVERAL_ANSWERED)
        self.assertEqual(list(handed), SEVERAL)

    def test_kinds(self):
        given = answers(list(SEVERAL))
        self.assertIs(type(given), list)
        self.assertEqual({type(number) for number in given}, {int})

    def test_nothing_is_printed(self):
        out = io.StringIO()
        with contextlib.redirect_stdout(out), contextlib.redirect_stderr(out):
            answers(list(SEVERAL))
        self.assertEqual(out.getvalue(), "")
