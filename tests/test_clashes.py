"""[41] and [42]: clashes.py."""

import itertools
import unittest

from helpers import A, B, C, D, chances, numbered, some_rows, walked, web_behind, whole
from likematch.clashes import clash, culprits, sound
from likematch.errors import NoDeed, TooMany
from likematch.papers import says, tellings
from likematch.webs import Web

E = ("e",)
CHAIN = [("like", A, B), ("unlike", A, C), ("like", B, C), ("unlike", C, B), ("like", A, C)]


TERMS = (A, B, C, D, ("f", A), ("f", B), ("f", C), ("g", ("f", A), B))


def some_pair(chance):
    """Two of few terms, so that they often come to be alike."""
    return tuple(chance.sample(TERMS, 2)) if chance.random() < 0.95 else (A, A)


def clashes_by(web, chosen):
    """Whether these likenesses clash with what was told unlike, by a web of their own."""
    other = Web()
    for number in chosen:
        other.like(*web.told()[number])
    return any(other.alike(*pair) for pair in web.parted().values())


def all_sets(web):
    numbers = list(web.told())
    return [chosen for many in range(len(numbers) + 1) for chosen in itertools.combinations(numbers, many)]


def slow_culprits(web):
    wrong = [chosen for chosen in all_sets(web) if clashes_by(web, chosen)]
    return [chosen for chosen in wrong if not any(set(less) < set(chosen) for less in wrong)]


def slow_sound(web):
    free = [chosen for chosen in all_sets(web) if not clashes_by(web, chosen)]
    return [chosen for chosen in free if not any(set(more) > set(chosen) for more in free)]


class Clash(unittest.TestCase):
    def told_clash(self, web, number, numbers):
        found = clash(web)
        self.assertIs(type(found), tuple)
        self.assertEqual(found[0], number)
        pair = web.parted()[number]
        self.assertEqual(walked(web.told(), found[1]), pair)
        self.assertEqual(says(web.told(), found[1]), pair)
        self.assertEqual(tellings(found[1]), numbers)

    def test_none(self):
        for rows in ([], [("put", A)], [("like", A, B)], [("unlike", A, B)], [("like", A, B), ("unlike", A, C)],
                     [("like", A, B), ("unlike", ("f", A), B)], [("unlike", ("f", A), ("f", B)), ("like", A, C)],
                     [("unlike", ("f", A), ("f", B)), ("like", ("g", A), ("g", B))]):
            web = web_behind(rows)
            self.assertIsNone(clash(web))
            self.assertEqual(culprits(web), [])
            self.assertEqual(sound(web), [tuple(web.told())])

    def test_one(self):
        self.told_clash(web_behind([("like", A, B), ("unlike", A, B)]), 2, [1])
        self.told_clash(web_behind([("unlike", B, A), ("like", A, B)]), 1, [2])
        self.told_clash(web_behind([("like", A, B), ("unlike", ("f", B), ("f", A))]), 2, [1])
        self.told_clash(web_behind([("unlike", ("f", A), C), ("like", ("f", B), C), ("like", A, B)]), 1, [2, 3])

    def test_the_first_of_several(self):
        self.told_clash(web_behind([("like", A, B), ("unlike", C, D), ("unlike", ("f", A), ("f", B)), ("like", A, C),
                                    ("unlike", A, B)]), 3, [1])
        self.told_clash(web_behind([("unlike", A, B), ("unlike", C, D), ("like", C, D), ("like", A, B)]), 1, [4])
        self.told_clash(web_behind([("unlike", A, E), ("unlike", C, D), ("like", C, D), ("like", A, B)]), 2, [3])

    def test_the_pair_is_as_it_was_told(self):
        for rows in ([("unlike", A, B), ("like", A, B)], [("unlike", B, A), ("like", A, B)]):
            web = web_behind(rows)
            self.assertEqual(says(web.told(), clash(web)[1]), rows[0][1:])

    def test_a_term_told_unlike_to_itself(self):
        for term in (A, ("f", A, B)):
            self.told_clash(web_behind([("unlike", term, term)]), 1, [])
            self.told_clash(web_behind([("like", A, B), ("unlike", C, D), ("unlike", term, term)]), 3, [])
        self.told_clash(web_behind([("unlike", A, B), ("unlike", C, C), ("like", A, B)]), 1, [3])

    def test_more_than_eight_likenesses(self):
        rows = [("like", numbered(at), numbered(at + 1)) for at in range(30)]
        web = web_behind(rows + [("unlike", numbered(0), numbered(30))])
        self.told_clash(web, 31, list(range(1, 31)))
        web = web_behind(rows + [("like", numbered(0), numbered(30)), ("unlike", numbered(30), numbered(31))])
        self.assertIsNone(clash(web))

    def test_none_of_the_paper_can_be_left_out(self):
        web = web_behind(CHAIN)
        number, paper = clash(web)
        self.assertEqual(number, 2)
        self.assertIn(tellings(paper), ([1, 3], [5]))

    def test_by_name_and_nothing_is_changed(self):
        web = web_behind(CHAIN + [("put", D)])
        web.back()
        before = whole(web)
        clash(web=web)[1].clear()
        culprits(web=web).clear()
        sound(web=web).clear()
        self.assertEqual(whole(web), before)
        self.assertEqual(culprits(web), [(3,), (5,)])
        self.assertNotEqual(clash(web)[1], [])
        self.assertNotEqual(sound(web), [])

    def test_many_webs_against_webs_of_their_own(self):
        chance = chances(41)
        seen = 0
        for _ in range(150):
            web = web_behind([(chance.choice(("like", "like", "unlike")),) + some_pair(chance) for _ in range(8)])
            numbers = [number for number, pair in web.parted().items() if web.alike(*pair)]
            if not numbers:
                self.assertIsNone(clash(web))
                continue
            seen += 1
            number, paper = clash(web)
            self.assertEqual(number, numbers[0])
            self.assertEqual(walked(web.told(), paper), web.parted()[number])
            for left_out in tellings(paper):
                other = Web()
                for at in tellings(paper):
                    if at != left_out:
                        other.like(*web.told()[at])
                self.assertIs(other.alike(*web.parted()[number]), False)
        self.assertGreater(seen, 50)


class Culprits(unittest.TestCase):
    def test_several_sets_in_order(self):
        web = web_behind(CHAIN)
        self.assertEqual(culprits(web), [(3,), (5,)])
        self.assertEqual(sound(web), [(1,)])
        web = web_behind([("like", A, B), ("like", B, C), ("like", C, D), ("like", A, D), ("unlike", A, D),
                          ("like", B, D), ("like", E, A)])
        self.assertEqual(culprits(web), [(4,), (1, 6), (1, 2, 3)])
        self.assertEqual(sound(web), [(1, 2, 7), (1, 3, 7), (2, 3, 6, 7)])

    def test_several_unlike_ones(self):
        web = web_behind([("like", A, B), ("unlike", A, C), ("like", B, C), ("unlike", D, E), ("like", D, E)])
        self.assertEqual(culprits(web), [(5,), (1, 3)])
        self.assertEqual(sound(web), [(1,), (3,)])

    def test_one_of_one_unlike_pair_within_one_of_another(self):
        web = web_behind([("like", A, B), ("like", B, C), ("unlike", A, C), ("unlike", A, B)])
        self.assertEqual(culprits(web), [(1,)])
        self.assertEqual(sound(web), [(2,)])

    def test_shorter_ones_first_among_the_sound_too(self):
        web = web_behind([("like", A, B), ("like", B, C), ("like", C, D), ("unlike", A, B), ("unlike", ("f", B), ("f", D))])
        self.assertEqual(culprits(web), [(1,), (2, 3)])
        self.assertEqual(sound(web), [(2,), (3,)])
        web = web_behind([("like", A, B), ("unlike", A, C), ("like", C, B), ("like", D, B), ("unlike", A, D)])
        self.assertEqual(culprits(web), [(1, 3), (1, 4)])
        self.assertEqual(sound(web), [(1,), (3, 4)])

    def test_likenesses_told_again_and_of_one_with_itself(self):
        web = web_behind([("like", A, B), ("like", B, A), ("like", A, A), ("unlike", A, B)])
        self.assertEqual(culprits(web), [(1,), (2,)])
        self.assertEqual(sound(web), [(3,)])

    def test_like_parts(self):
        web = web_behind([("like", A, B), ("like", ("f", A), C), ("unlike", ("f", B), C), ("put", ("g", B))])
        self.assertEqual(culprits(web), [(1, 2)])
        self.assertEqual(sound(web), [(1,), (2,)])

    def test_a_term_told_unlike_to_itself(self):
        for rows in ([("unlike", A, A)], [("like", A, B), ("unlike", A, A), ("unlike", A, B)],
                     [("unlike", B, C), ("unlike", ("f", B), ("f", B)), ("like", B, C)]):
            web = web_behind(rows)
            self.assertEqual(culprits(web), [()])
            self.assertEqual(sound(web), [])

    def test_no_clash(self):
        self.assertEqual(culprits(Web()), [])
        self.assertEqual(sound(Web()), [()])
        web = web_behind([("unlike", A, B)])
        self.assertEqual(culprits(web), [])
        self.assertEqual(sound(web), [()])
        web = web_behind([("unlike", A, B), ("like", A, C), ("put", D), ("like", B, D)])
        self.assertEqual(culprits(web), [])
        self.assertEqual(sound(web), [(2, 3)])

    def test_just_eight_and_nine_likenesses(self):
        rows = [("like", numbered(at), numbered(at + 1)) for at in range(8)]
        unlike = ("unlike", numbered(0), numbered(8))
        web = web_behind(rows[:4] + [unlike] + rows[4:] + [("unlike", A, B)] * 20)
        self.assertEqual(culprits(web), [(1, 2, 3, 4, 6, 7, 8, 9)])
        self.assertEqual(len(sound(web)), 8)
        self.assertEqual(sound(web)[0], (1, 2, 3, 4, 6, 7, 8))
        self.assertEqual(sound(web)[-1], (2, 3, 4, 6, 7, 8, 9))
        web.like(A, A)
        for refused in (culprits, sound):
            before = whole(web)
            with self.assertRaises(TooMany):
                refused(web)
            self.assertEqual(whole(web), before)
        self.assertEqual(clash(web)[0], 5)
        web.back()
        self.assertEqual(len(culprits(web)), 1)

    def test_too_many_comes_ahead_of_all(self):
        likes = [("like", A, A)] * 9
        for rows in (likes, likes + [("unlike", A, B)], likes + [("unlike", A, A)], [("unlike", A, A)] + likes):
            for refused in (culprits, sound):
                with self.assertRaises(TooMany):
                    refused(web_behind(rows))

    def test_eight_alike_already(self):
        web = web_behind([("like", A, B)] * 8 + [("unlike", A, B)])
        self.assertEqual(culprits(web), [(number,) for number in range(1, 9)])
        self.assertEqual(sound(web), [()])

    def test_told_are_lists_of_tuples_that_are_new(self):
        web = web_behind(CHAIN)
        for told in (culprits, sound):
            found = told(web)
            self.assertIs(type(found), list)
            self.assertEqual({type(row) for row in found}, {tuple})
            found.clear()
            self.assertNotEqual(told(web), [])

    def test_many_webs_against_all_sets(self):
        chance = chances(42)
        several = 0
        for _ in range(60):
            likes = [("like",) + some_pair(chance) for _ in range(chance.randrange(3, 9))]
            unlikes = [("unlike",) + some_pair(chance) for _ in range(chance.randrange(1, 5))]
            rows = likes + unlikes
            chance.shuffle(rows)
            web = web_behind(rows)
            self.assertEqual(culprits(web), slow_culprits(web), rows)
            self.assertEqual(sound(web), slow_sound(web), rows)
            several += len(culprits(web)) > 1
            for wrong in culprits(web):
                for free in sound(web):
                    self.assertTrue(set(wrong) - set(free))
        self.assertGreater(several, 10)


class BehindDeeds(unittest.TestCase):
    def test_taken_back_and_done_again(self):
        web = web_behind([("unlike", A, B), ("like", A, C), ("like", C, B)])
        for _ in range(2):
            self.assertEqual((clash(web)[0], culprits(web), sound(web)), (1, [(2, 3)], [(2,), (3,)]))
            web.back()
            self.assertEqual((clash(web), culprits(web), sound(web)), (None, [], [(2,)]))
            web.again()
        for _ in range(3):
            web.back()
        self.assertEqual((clash(web), culprits(web), sound(web)), (None, [], [()]))
        web.again()
        web.like(B, A)
        self.assertEqual((clash(web)[0], culprits(web), sound(web)), (1, [(2,)], [()]))
        with self.assertRaises(NoDeed):
            web.again()

    def test_an_unlike_one_taken_back(self):
        web = web_behind([("like", A, B), ("unlike", A, B)])
        twin = web.twin()
        web.back()
        self.assertIsNone(clash(web))
        self.assertEqual(clash(twin)[0], 2)
        web.unlike(B, A)
        self.assertEqual(walked(web.told(), clash(web)[1]), (B, A))

    def test_many_rows_of_deeds(self):
        chance = chances(43)
        web = Web()
        for _ in range(120):
            kind = chance.random()
            if kind < 0.5 and web.log():
                web.back()
            elif kind < 0.6:
                web = web.twin()
            else:
                web.all_done(some_rows(chance, 1))
            fresh = web_behind(web.log())
            found = clash(web)
            self.assertEqual(found, clash(fresh))
            if found is not None:
                self.assertEqual(walked(fresh.told(), found[1]), fresh.parted()[found[0]])
            if len(web.told()) <= 5:
                self.assertEqual(culprits(web), slow_culprits(fresh))
                self.assertEqual(sound(web.twin()), slow_sound(fresh))


if __name__ == "__main__":
    unittest.main()
