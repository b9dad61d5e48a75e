import unittest

from lastproof.terms.places import at, places, put_at
from tests.samples import A, B, chain, f, g, p, random_terms


def naive_places(term):
    found = [((), term)]
    if not isinstance(term, int):
        for k, argument in enumerate(term[1]):
            found += [((k,) + place, here) for place, here in naive_places(argument)]
    return found


class PlacesTest(unittest.TestCase):
    def test_the_root_comes_first(self):
        self.assertEqual(places(4), [((), 4)])
        self.assertEqual(places(A), [((), A)])
        self.assertEqual(places(f(0)), [((), f(0)), ((0,), 0)])

    def test_the_order_of_the_places(self):
        term = f(g(0, A), 1, g(B))
        self.assertEqual(places(term), [
            ((), term), ((0,), g(0, A)), ((0, 0), 0), ((0, 1), A), ((1,), 1), ((2,), g(B)), ((2, 0), B),
        ])

    def test_against_the_words_of_the_document(self):
        for term in random_terms(5, 200):
            self.assertEqual(places(term), naive_places(term))

    def test_deep_terms(self):
        found = places(chain(120, 3))
        self.assertEqual(len(found), 121)
        self.assertEqual(found[-1], ((0,) * 120, 3))

    def test_the_list_is_new_at_each_call(self):
        term = f(0)
        places(term).clear()
        self.assertEqual(len(places(term)), 2)
        self.assertIs(type(places(term)), list)


class AtTest(unittest.TestCase):
    def test_every_place_exists(self):
        for term in random_terms(6, 100):
            for place, here in naive_places(term):
                self.assertEqual(at(term, place), here)

    def test_the_second_argument_of_the_first_argument(self):
        self.assertEqual(at(f(g(0, B), A), (0, 1)), B)
        self.assertEqual(at(f(g(0, B), A), (1,)), A)

    def test_the_variable_zero_is_found(self):
        self.assertEqual(at(f(0), (0,)), 0)
        self.assertIsNotNone(at(f(0), (0,)))

    def test_places_that_do_not_exist(self):
        term = f(g(0, A), 1)
        for place in [(2,), (0, 2), (0, 0, 0), (0, 1, 0), (1, 0), (5, 0), (0, 5, 0)]:
            self.assertIsNone(at(term, place), place)
        self.assertIsNone(at(term, (-1,)))
        self.assertIsNone(at(A, (0,)))
        self.assertIsNone(at(7, (0,)))
        self.assertIsNone(at(7, (7, 7)))

    def test_the_root_of_anything(self):
        for term in (0, 7, A, f(0)):
            self.assertEqual(at(term, ()), term)


class PutAtTest(unittest.TestCase):
    def test_the_example_of_the_interface(self):
        self.assertEqual(
            put_at(((2, 0, 0), (0, ((2, 1, 0), (1,)))), (1, 0), 7),
            ((2, 0, 0), (0, ((2, 1, 0), (7,)))),
        )

    def test_the_root(self):
        for term in (3, A, f(0, 1)):
            self.assertEqual(put_at(term, (), g(9)), g(9))

    def test_the_rest_stays(self):
        self.assertEqual(put_at(f(0, g(1, 2, 3), 4), (1, 1), B), f(0, g(1, B, 3), 4))
        self.assertEqual(put_at(f(0, 1), (0,), f(0, 1)), f(f(0, 1), 1))
        self.assertEqual(put_at(f(0, 1), (1,), 0), f(0, 0))
        self.assertEqual(put_at(p(A), (0,), B), p(B))

    def test_a_place_that_does_not_exist_changes_nothing(self):
        term = f(g(0, A), 1)
        for place in [(2,), (0, 2), (0, 0, 0), (0, 1, 0), (1, 0)]:
            self.assertEqual(put_at(term, place, B), term, place)
        self.assertEqual(put_at(term, (-1,), B), term)
        self.assertEqual(put_at(7, (0,), B), 7)
        self.assertEqual(put_at(A, (0,), B), A)

    def test_every_place_of_many_terms(self):
        new = g(50)
        for term in random_terms(7, 100):
            for place, _ in naive_places(term):
                result = put_at(term, place, new)
                self.assertEqual(at(result, place), new)
                for other, here in naive_places(term):
                    shorter = min(len(place), len(other))
                    if place[:shorter] != other[:shorter]:
                        self.assertEqual(at(result, other), here)
                self.assertEqual(put_at(result, place, at(term, place)), term)

    def test_deep_terms(self):
        self.assertEqual(put_at(chain(120, 3), (0,) * 120, A), chain(120, A))
        self.assertEqual(put_at(chain(120, 3), (0,) * 121, A), chain(120, 3))
