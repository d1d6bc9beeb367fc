"""Words of very many letters, ahead of a refusal or of an answer: what is kept of them stays small ([50], [61])."""

import tracemalloc
import unittest

from tautrounds.changes import is_change, led_sum
from tautrounds.cuts import is_parts, parts
from tautrounds.errors import BadImages, TooMany
from tautrounds.live import Live
from tautrounds.logs import log_text
from tautrounds.rounds import closed_up
from tautrounds.skins import Skin, least_turn
from tautrounds.words import cut_free, gone_back
from tests.helpers import chance_of, chance_round, chance_skin, chance_word, check_error, images_from

LONG = (1, 2) + (5, 2) * 8 + (5,)
FAR = (1, 3, 8, 11, 11, 2, 10, 6, 4, 11, 5, 11, 4, 7, 4, 4, 11, 9, 7, 11, 4, 3, 10, 10, 7, 7, 11, 8, 5)


def peak_of(act):
    """How many bytes act needs at one time, beyond what stood ahead."""
    tracemalloc.start()
    act()
    peak = tracemalloc.get_traced_memory()[1]
    tracemalloc.stop()
    return peak


class FarTest(unittest.TestCase):
    def far_live(self):
        live = Live(Skin((0, 10, 6, 7, 9, 4, 3, 8, 5, 1, 11, 2)))
        live.draw("e", LONG)
        live.draw("z", (3,))
        live.draw("abcdefgh", FAR)
        return live

    def test_least_turn_is_the_least_of_all_turns(self):
        chance = chance_of(1)
        for _ in range(3000):
            root = tuple(chance.randrange(chance.choice([2, 3, 12])) for _ in range(chance.randint(1, 12)))
            word = root * chance.choice([1, 1, 2, 3])
            self.assertEqual(least_turn(word), min(word[at:] + word[:at] for at in range(len(word))))

    def test_least_turn_of_many_letters(self):
        word = (0,) * 50000 + (1,) + (0,) * 50000 + (2,)
        self.assertLess(peak_of(lambda: self.assertEqual(least_turn(word), word)), 20 * 10 ** 6)

    def test_twist(self):
        live = self.far_live()
        live.mark("m")
        for times in (9, -9):
            before = live.copy()
            self.assertLess(
                peak_of(lambda: check_error(self, TooMany, ("most", 40), live.twist, "e", times)), 30 * 10 ** 6)
            self.assertEqual(live, before)
            self.assertEqual((live.steps(), live.marks()), (before.steps(), {"m": 3}))
            self.assertEqual(log_text(live), log_text(before))

    def test_twist_within_a_step_of_several_deeds(self):
        live = self.far_live()
        before = live.copy()
        deeds = [("settle",), ("twist", "e", 9)]
        self.assertLess(peak_of(lambda: check_error(self, TooMany, ("most", 40), live.do, deeds)), 30 * 10 ** 6)
        self.assertEqual((live, live.steps()), (before, before.steps()))

    def test_led_sum(self):
        """Each round of a sum is led, however long the led word is ([50])."""
        chance = chance_of(2)
        skin = chance_skin(chance, 6)
        images = images_from([cut_free(chance_word(chance, skin, 400))[:200] for _ in range(6)])
        some = {chance_round(chance, skin, 40): 1 for _ in range(60)}
        told = []
        self.assertLess(peak_of(lambda: told.append(led_sum(skin, images, some))), 40 * 10 ** 6)
        self.assertGreater(max(map(len, told[0])), 4000)
        for loop in list(told[0])[:5]:
            self.assertEqual(closed_up(loop), loop)

    def test_parts_with_images_of_many_letters(self):
        """Images of parts may have words of any length ([52])."""
        chance = chance_of(4)
        skin = Skin((0, 1, 2, 3, 4, 5))
        ahead = cut_free(chance_word(chance, skin, 6000))
        told = parts(skin, [(0, 2)])
        moved = [(labels, part, [cut_free(ahead + word + gone_back(ahead)) for word in images])
                 for labels, part, images in told]
        answers = []
        self.assertLess(peak_of(lambda: answers.append(is_parts(skin, [(0, 2)], moved))), 40 * 10 ** 6)
        self.assertEqual(answers, [True])
        other = moved[0][2][:2] + [cut_free((2,) + word + (3,)) for word in moved[0][2][2:]]
        self.assertFalse(is_parts(skin, [(0, 2)], [moved[0][:2] + (other,)] + moved[1:]))

    def test_images_of_many_letters(self):
        chance = chance_of(3)
        skin = Skin((0, 2, 4, 6, 8, 10, 1, 3, 5, 7, 9, 11))
        images = images_from([cut_free(chance_word(chance, skin, 400))[:200] for _ in range(6)])
        self.assertLess(peak_of(lambda: self.assertFalse(is_change(skin, images))), 10 ** 7)
        live = Live(skin)
        live.draw("x", (0,) * 40)
        self.assertLess(peak_of(lambda: check_error(self, BadImages, None, live.change, images)), 10 ** 7)


if __name__ == "__main__":
    unittest.main()
