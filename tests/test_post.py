import random
import unittest

from warmove.errors import MoveError, NoHouse, NoLetter
from warmove.post import Post

FAR = 10 ** 39


class Model:
    """A post by its whole log: each answer is looked up there anew."""

    def __init__(self, houses, at, senders):
        self.places = [at]
        self.learnt = {i: (at, 0) for i in range(senders)}
        self.senders = []
        self.copies = []
        self.put_by = set()
        self.taken = []

    def carry(self, to):
        if to == self.places[-1]:
            return NoHouse
        self.places.append(to)
        return None

    def send(self, i):
        self.senders.append(i)
        self.copies.append([])
        self.double(len(self.senders) - 1)
        return len(self.senders) - 1

    def double(self, letter):
        if letter not in range(len(self.senders)):
            return NoLetter
        house, number = self.learnt[self.senders[letter]]
        self.copies[letter].append({"house": house, "number": number, "since": number, "hops": 0})
        return len(self.copies[letter]) - 1

    def one(self, letter, copy):
        there = letter in range(len(self.copies)) and copy in range(len(self.copies[letter]))
        return self.copies[letter][copy] if there else None

    def hop(self, letter, copy):
        one = self.one(letter, copy)
        if one is None or one["house"] is None:
            return NoLetter
        if one["house"] == self.places[-1]:
            one["house"] = None
            self.put_by.add(letter)
            return ("there",)
        number = max(k for k in range(1, len(self.places)) if self.places[k - 1] == one["house"])
        assert number > one["number"], "each hop goes by a later carrying"
        one.update(house=self.places[number], number=number, hops=one["hops"] + 1)
        return ("on", one["house"])

    def hops(self, letter, copy):
        one = self.one(letter, copy)
        return NoLetter if one is None else one["hops"]

    def learn(self, i):
        self.learnt[i] = (self.places[-1], len(self.places) - 1)
        return None

    def take(self, i):
        due = [letter for letter, sender in enumerate(self.senders) if sender == i and letter not in self.taken]
        if not due or due[0] not in self.put_by:
            return None
        self.taken.append(due[0])
        return due[0]


class PostCase(unittest.TestCase):
    def refused(self, error, ask, *handed):
        with self.assertRaises(error) as caught:
            ask(*handed)
        self.assertIsInstance(caught.exception, MoveError)

    def takes(self, post, i, *answers):
        """Look that a sender's letters are taken so, and then none."""
        for answer in answers + (None, None):
            self.assertEqual(post.take(i), answer)


class TestEachCall(PostCase):
    def test_carry(self):
        post = Post(3, 1, 1)
        self.assertIsNone(post.carry(2))
        self.assertIsNone(post.carry(0))
        self.assertIsNone(post.carry(1))

    def test_carry_to_where_it_is(self):
        for at in range(6):
            post = Post(6, at, 1)
            self.refused(NoHouse, post.carry, at)
            other = (at + 1) % 6
            post.carry(other)
            self.refused(NoHouse, post.carry, other)
            self.refused(NoHouse, post.carry, other)
            post.carry(at)
            self.refused(NoHouse, post.carry, at)

    def test_a_refused_carry_leads_nowhere(self):
        post = Post(3, 0, 1)
        letter = post.send(0)
        self.refused(NoHouse, post.carry, 0)
        self.assertEqual(post.hop(letter, 0), ("there",))

    def test_send_tells_the_number_overall(self):
        post = Post(2, 0, 3)
        self.assertEqual([post.send(i) for i in (0, 2, 2, 1, 0)], [0, 1, 2, 3, 4])
        for letter in range(5):
            self.assertEqual(post.hops(letter, 0), 0)
            self.refused(NoLetter, post.hops, letter, 1)

    def test_double_tells_the_number_of_the_copy(self):
        post = Post(2, 0, 1)
        first, second = post.send(0), post.send(0)
        self.assertEqual([post.double(first) for _ in range(3)], [1, 2, 3])
        self.assertEqual([post.double(second) for _ in range(2)], [1, 2])
        self.assertEqual(post.double(first), 4)

    def test_a_letter_can_be_doubled_behind_its_coming_and_its_taking(self):
        post = Post(2, 0, 1)
        letter = post.send(0)
        post.hop(letter, 0)
        self.assertEqual(post.double(letter), 1)
        self.takes(post, 0, letter)
        self.assertEqual(post.double(letter), 2)
        self.assertEqual((post.hop(letter, 1), post.hop(letter, 2)), (("there",), ("there",)))
        self.takes(post, 0)

    def test_hop(self):
        post = Post(3, 0, 1)
        letter = post.send(0)
        post.carry(2)
        self.assertEqual(post.hop(letter, 0), ("on", 2))
        self.assertEqual(post.hop(letter, 0), ("there",))
        self.assertEqual(post.hops(letter, 0), 1)

    def test_kinds_of_what_is_told(self):
        post = Post(2, 0, 1)
        letter = post.send(0)
        copy = post.double(letter)
        post.carry(1)
        on, there = post.hop(letter, 0), (post.hop(letter, 1), post.hop(letter, 1))[1]
        numbers = [letter, copy, on[1], post.hops(letter, 0), post.take(0)]
        self.assertEqual([type(number) for number in numbers], [int] * 5)
        self.assertEqual([type(on), type(there), len(on), len(there)], [tuple, tuple, 2, 1])

    def test_learn(self):
        post = Post(3, 0, 2)
        post.carry(1)
        self.assertIsNone(post.learn(0))
        knowing, unknowing = post.send(0), post.send(1)
        self.assertEqual(post.hop(knowing, 0), ("there",))
        self.assertEqual(post.hop(unknowing, 0), ("on", 1))

    def test_learning_leads_no_letter_that_is_under_way(self):
        post = Post(3, 0, 1)
        letter = post.send(0)
        post.carry(1)
        post.learn(0)
        self.assertEqual(post.hop(letter, 0), ("on", 1))

    def test_take(self):
        post = Post(2, 0, 1)
        self.takes(post, 0)
        letter = post.send(0)
        self.takes(post, 0)
        post.hop(letter, 0)
        self.takes(post, 0, letter)


class TestLed(PostCase):
    def test_to_where_the_house_last_led(self):
        # House 0 led to 1 first, and then to 2.
        post = Post(4, 0, 1)
        letter = post.send(0)
        post.carry(1)
        post.carry(0)
        post.carry(2)
        self.assertEqual(post.hop(letter, 0), ("on", 2))
        self.assertEqual(post.hop(letter, 0), ("there",))

    def test_along_a_chain(self):
        post = Post(6, 0, 1)
        letter = post.send(0)
        for house in range(1, 6):
            post.carry(house)
        for house in range(1, 6):
            self.assertEqual(post.hop(letter, 0), ("on", house))
            self.assertEqual(post.hops(letter, 0), house)
        self.assertEqual(post.hop(letter, 0), ("there",))
        self.assertEqual(post.hops(letter, 0), 5)

    def test_while_it_is_carried_on(self):
        post = Post(3, 0, 1)
        letter = post.send(0)
        post.carry(1)
        self.assertEqual(post.hop(letter, 0), ("on", 1))
        post.carry(2)
        self.assertEqual(post.hop(letter, 0), ("on", 2))
        post.carry(0)
        self.assertEqual(post.hop(letter, 0), ("on", 0))
        self.assertEqual(post.hop(letter, 0), ("there",))
        self.assertEqual(post.hops(letter, 0), 3)

    def test_a_doubled_one_goes_from_where_its_sender_knows_now(self):
        post = Post(4, 0, 2)
        letter = post.send(0)
        post.carry(1)
        self.assertEqual(post.double(letter), 1)
        post.learn(1)
        self.assertEqual(post.double(letter), 2)
        post.learn(0)
        self.assertEqual(post.double(letter), 3)
        self.assertEqual([post.hop(letter, copy) for copy in range(4)], [("on", 1)] * 3 + [("there",)])
        self.assertEqual([post.hops(letter, copy) for copy in range(4)], [1, 1, 1, 0])


class TestTaken(PostCase):
    def test_once_however_often_it_came(self):
        post = Post(2, 0, 1)
        letter = post.send(0)
        for copy in range(3):
            self.assertEqual(post.hop(letter, copy), ("there",))
            post.double(letter)
        self.takes(post, 0, letter)
        self.assertEqual(post.hop(letter, 3), ("there",))
        self.takes(post, 0)

    def test_in_order(self):
        post = Post(2, 0, 1)
        letters = [post.send(0) for _ in range(4)]
        post.hop(letters[2], 0)
        post.hop(letters[1], 0)
        self.takes(post, 0)
        post.hop(letters[0], 0)
        self.takes(post, 0, *letters[:3])
        post.hop(letters[3], 0)
        self.takes(post, 0, letters[3])

    def test_each_senders_by_themselves(self):
        post = Post(2, 0, 3)
        first, second, third = post.send(2), post.send(0), post.send(2)
        post.hop(second, 0)
        post.hop(third, 0)
        self.takes(post, 1)
        self.takes(post, 2)
        self.takes(post, 0, second)
        post.hop(first, 0)
        self.takes(post, 2, first, third)

    def test_put_by_stays_so_when_it_is_carried(self):
        post = Post(2, 0, 1)
        letter = post.send(0)
        post.hop(letter, 0)
        post.carry(1)
        self.takes(post, 0, letter)


class TestNoLetter(PostCase):
    def test_no_such_letter(self):
        post = Post(2, 0, 2)
        for many in range(3):
            for letter in [-1, -2, -many, many, many + 1, FAR, -FAR]:
                if letter not in range(many):
                    self.refused(NoLetter, post.double, letter)
                    self.refused(NoLetter, post.hop, letter, 0)
                    self.refused(NoLetter, post.hops, letter, 0)
            self.assertEqual(post.send(1), many)

    def test_no_such_copy(self):
        post = Post(2, 0, 1)
        letter, other = post.send(0), post.send(0)
        post.double(letter)
        for copy in [-1, -2, 2, 3, FAR, -FAR]:
            self.refused(NoLetter, post.hop, letter, copy)
            self.refused(NoLetter, post.hops, letter, copy)
        for copy in [-1, 1, 2]:
            self.refused(NoLetter, post.hop, other, copy)
            self.refused(NoLetter, post.hops, other, copy)

    def test_a_copy_that_came(self):
        post = Post(3, 0, 1)
        letter = post.send(0)
        post.double(letter)
        post.hop(letter, 0)
        for _ in range(2):
            self.refused(NoLetter, post.hop, letter, 0)
        post.carry(1)
        self.refused(NoLetter, post.hop, letter, 0)
        self.assertEqual(post.hops(letter, 0), 0)
        self.assertEqual(post.hop(letter, 1), ("on", 1))

    def test_what_is_refused_changes_nothing(self):
        post = Post(2, 0, 1)
        letter = post.send(0)
        for ask, handed in [(post.double, (1,)), (post.hop, (0, 1)), (post.hop, (1, 0)), (post.hops, (-1, 0))]:
            self.refused(NoLetter, ask, *handed)
        self.assertEqual(post.double(letter), 1)
        self.takes(post, 0)
        self.assertEqual(post.send(0), 1)


class TestLongRows(PostCase):
    def call(self, chance, post, model, houses, senders):
        """Make one call by chance at both, and look that the same is told or refused."""
        word = chance.choice(["carry", "send", "double", "hop", "hop", "hop", "hop", "hops", "learn", "take", "take"])
        letter = chance.randint(-1, len(model.senders))
        if chance.randrange(4) and model.senders:
            letter = max(0, len(model.senders) - chance.randint(1, 6))
        copy = chance.choice([0, 0, 0, 0, 1, 2, -1])
        handed = {
            "carry": (chance.randrange(houses),), "send": (chance.randrange(senders),), "double": (letter,),
            "hop": (letter, copy), "hops": (letter, copy), "learn": (chance.randrange(senders),),
            "take": (chance.randrange(senders),),
        }[word]
        answer = getattr(model, word)(*handed)
        if isinstance(answer, type):
            self.refused(answer, getattr(post, word), *handed)
        else:
            self.assertEqual(getattr(post, word)(*handed), answer, (word, handed))
        return word

    def test_as_the_log_has_it(self):
        chance = random.Random(17)
        many_hops, many_taken = set(), 0
        for _ in range(60):
            houses, senders = chance.randint(2, 6), chance.randint(1, 4)
            at = chance.randrange(houses)
            post, model = Post(houses, at, senders), Model(houses, at, senders)
            for _ in range(400):
                self.call(chance, post, model, houses, senders)
            carried = len(model.places) - 1
            for letter, copies in enumerate(model.copies):
                for copy, one in enumerate(copies):
                    hops = post.hops(letter, copy)
                    self.assertEqual(hops, one["hops"])
                    self.assertLessEqual(hops, carried - one["since"])
                    many_hops.add(min(hops, 5))
            for i in range(senders):
                mine = [letter for letter in model.taken if model.senders[letter] == i]
                self.assertEqual(mine, [k for k in range(len(model.senders)) if model.senders[k] == i][:len(mine)])
            many_taken += len(model.taken)
        self.assertEqual(many_hops, {0, 1, 2, 3, 4, 5})
        self.assertGreater(many_taken, 150)

    def test_two_side_by_side(self):
        chance = random.Random(18)
        pairs = [(Post(4, 0, 2), Model(4, 0, 2)) for _ in range(2)]
        for _ in range(800):
            self.call(chance, *chance.choice(pairs), 4, 2)


class TestHandedIn(PostCase):
    def test_by_their_names_in_another_order(self):
        post = Post(senders=2, at=1, houses=3)
        self.assertEqual(post.send(i=1), 0)
        self.assertEqual(post.double(letter=0), 1)
        self.assertIsNone(post.carry(to=2))
        self.assertIsNone(post.learn(i=1))
        self.assertEqual(post.hop(copy=1, letter=0), ("on", 2))
        self.assertEqual(post.hops(copy=1, letter=0), 1)
        self.assertEqual(post.hops(copy=0, letter=0), 0)
        self.assertEqual(post.hop(copy=1, letter=0), ("there",))
        self.assertEqual(post.take(i=1), 0)
        self.assertIsNone(post.take(i=0))

    def test_somewhat_beyond_the_bounds(self):
        post = Post(8, 7, 6)
        post.carry(6)
        self.assertEqual(post.hop(post.send(5), 0), ("on", 6))


if __name__ == "__main__":
    unittest.main()
