"""[7], [8], [22], [23], [24]: places, arcs, and the priced machine."""

import random

from stillends.books import takes
from stillends.spellers import place_behind, priced, speller
from stillends.tokenlists import row_text
from stillends.tries import inner_texts
from tests.helpers import BAD_ROWS, CUTS, FREE, FREE2, LONE, Case, rows_upto, texts_over

# Token 0 never stands twice in a row.
BOOK = (2, (0, 1), ((1, 0, 0), (-1, 0, 0)))


def arcs_by_definition(tokens, book, begun, mode, place):
    """The arcs from a place as [7] tells them: triples of a letter, a place and a token."""
    i, b, u = place
    inner = inner_texts(tokens)
    length = len(begun)
    if mode == "behind" and u == "" and b == 0 and i < length:
        return {(begun[i], (i + 1, 0, ""), -1)}
    arcs = set()
    for c in "abc":
        if mode == "healed" and i < length and c != begun[i]:
            continue
        k = min(length, i + 1)
        if u + c in inner:
            arcs.add((c, (k, b, u + c), -1))
        for t, token in enumerate(tokens):
            if token == u + c and book[2][b][t] != -1:
                arcs.add((c, (k, book[2][b][t], ""), t))
    return arcs


def speller_by_definition(tokens, book, begun, mode):
    places = {(0, 0, "")}
    while True:
        more = {there for place in places for _, there, _ in arcs_by_definition(tokens, book, begun, mode, place)}
        if more <= places:
            break
        places |= more
    places = sorted(places, key=lambda place: (place[0], len(place[2]), place[2], place[1]))
    finals = tuple(k for k, (i, b, u) in enumerate(places) if i == len(begun) and u == "" and b in book[1])
    arcs = [
        (k, c, places.index(there), t)
        for k, place in enumerate(places)
        for c, there, t in arcs_by_definition(tokens, book, begun, mode, place)
    ]
    return (tuple(places), finals, tuple(sorted(arcs)))


def ways(told, text):
    """The rows finished by the ways from the start to finals that read the text, with duplicates."""
    _, finals, arcs = told
    found = [(0, ())]
    for letter in text:
        found = [
            (there, row + ((token,) if token >= 0 else ()))
            for state, row in found
            for here, c, there, token in arcs
            if here == state and c == letter
        ]
    return sorted(row for state, row in found if state in finals)


def some_case(chance):
    """Tokens, a book for them and a begun text, all small, by chance."""
    texts = [text for text in texts_over("abc" if chance.random() < 0.3 else "ab", 3) if text]
    tokens = tuple(chance.sample(texts, chance.randint(1, 4)))
    count = chance.randint(1, 3)
    finals = tuple(k for k in range(count) if chance.random() < 0.7)
    table = tuple(tuple(chance.randint(-1, count - 1) for _ in tokens) for _ in range(count))
    return (tokens, (count, finals, table), chance.choice(texts_over("ab", 3)))


class SpellerTest(Case):
    def test_by_the_definition(self):
        chance = random.Random(22)
        for _ in range(150):
            tokens, book, begun = some_case(chance)
            for mode in ("behind", "healed"):
                told = speller(tokens, book, begun, mode)
                self.same(told, speller_by_definition(tokens, book, begun, mode))

    def test_ways_are_one_to_one_with_rows(self):
        chance = random.Random(12)
        for _ in range(30):
            tokens, book, begun = some_case(chance)
            rows = [row for row in rows_upto(len(tokens), 5) if takes(tokens, book, row)]
            for mode in ("behind", "healed"):
                told = speller(tokens, book, begun, mode)
                ahead = begun if mode == "behind" else ""
                for text in texts_over("ab", 5):
                    if text.startswith(begun):
                        spelled = [row for row in rows if ahead + row_text(tokens, row) == text]
                        self.same(ways(told, text), sorted(spelled))

    def test_behind_begins_with_the_chain_of_begun(self):
        places, finals, arcs = speller(CUTS, BOOK, "ba", "behind")
        self.same(places, ((0, 0, ""), (1, 0, ""), (2, 0, ""), (2, 1, ""), (2, 0, "a"), (2, 1, "a")))
        self.same(finals, (2, 3))
        self.same(arcs[:2], ((0, "b", 1, -1), (1, "a", 2, -1)))

    def test_states_come_last_in_the_sequence(self):
        places = speller(("b", "bb", "a"), (2, (0,), ((1, 0, 0), (0, 1, 1))), "", "healed")[0]
        self.same(places, ((0, 0, ""), (0, 1, ""), (0, 0, "b"), (0, 1, "b")))

    def test_healed_spells_on_beyond_begun(self):
        places, finals, arcs = speller(("abc",), (1, (0,), ((0,),)), "a", "healed")
        self.same(places, ((0, 0, ""), (1, 0, ""), (1, 0, "a"), (1, 0, "ab")))
        self.same(finals, (1,))
        self.same(arcs, ((0, "a", 2, -1), (1, "a", 2, -1), (2, "b", 3, -1), (3, "c", 1, 0)))

    def test_without_places_to_go_to(self):
        self.same(speller(("a",), (1, (0,), ((0,),)), "b", "healed"), (((0, 0, ""),), (), ()))
        self.same(speller(("a",), (1, (), ((-1,),)), "", "behind"), (((0, 0, ""),), (), ()))

    def test_a_token_that_begins_another(self):
        self.same(speller(LONE, FREE2, "", "behind")[2], ((0, "a", 0, 0), (0, "a", 1, -1), (1, "b", 0, 1)))

    def test_up_to_the_limits(self):
        tokens = tuple(chr(97 + k // 10) * 3 + chr(97 + k % 10) * 9 for k in range(120))
        table = tuple(tuple((state + 1) % 3 for _ in tokens) for state in range(3))
        places, finals, arcs = speller(tokens, (3, (2,), table), "aaa" * 100, "behind")
        self.same(len(places), 300 + 3 * len(inner_texts(tokens)))
        self.same(len(finals), 1)
        self.same(len(arcs), 300 + 3 * (len(inner_texts(tokens)) - 1 + 120))


class PlaceBehindTest(Case):
    def test_by_the_arcs(self):
        chance = random.Random(23)
        for _ in range(60):
            tokens, book, begun = some_case(chance)
            for mode in ("behind", "healed"):
                for row in rows_upto(len(tokens), 3):
                    expected = self.behind(tokens, book, begun, mode, row)
                    self.same(place_behind(tokens, book, begun, mode, row), expected)

    def behind(self, tokens, book, begun, mode, row):
        """The border to which arcs lead that spell the row and finish just its tokens."""
        start = (0, 0, "") if mode == "healed" else (len(begun), 0, "")
        found = [(start, ())]
        for letter in row_text(tokens, row):
            found = [
                (there, done + ((t,) if t >= 0 else ()))
                for place, done in found
                for c, there, t in arcs_by_definition(tokens, book, begun, mode, place)
                if c == letter
            ]
        ends = [place for place, done in found if done == row and place[2] == ""]
        self.assertLessEqual(len(ends), 1)
        return ends[0] if ends else None

    def test_edges(self):
        self.same(place_behind(CUTS, FREE, "ab", "healed", ()), (0, 0, ""))
        self.same(place_behind(CUTS, FREE, "ab", "behind", ()), (2, 0, ""))
        self.same(place_behind(CUTS, FREE, "ab", "healed", (2,) * 60), (2, 0, ""))
        self.same(place_behind(CUTS, FREE, "aba", "healed", (2, 2)), (3, 0, ""))
        self.same(place_behind(CUTS, FREE, "abb", "healed", (2, 2)), None)
        self.same(place_behind(CUTS, BOOK, "", "behind", (0, 0)), None)
        self.same(place_behind(CUTS, BOOK, "b", "healed", (0, 0)), None)
        self.same(place_behind(CUTS, BOOK, "b", "behind", (1, 0)), (1, 1, ""))
        self.same(place_behind(CUTS, FREE, "b" * 400, "healed", (1,) * 60), (60, 0, ""))

    def test_refuses(self):
        for mode in ("behind", "healed"):
            self.refuses_all("NotUsable('row')", place_behind, (CUTS, FREE, "a", mode), BAD_ROWS)


class PricedTest(Case):
    def test_by_the_speller(self):
        chance = random.Random(8)
        for _ in range(60):
            tokens, book, begun = some_case(chance)
            for mode in ("behind", "healed"):
                places, _, arcs = speller(tokens, book, begun, mode)
                count, found = priced(tokens, book, begun, mode)
                self.same(count, len(places))
                expected = [(here, c, there, 0 if token == -1 else 1) for here, c, there, token in arcs]
                self.same(found, tuple(expected))
                self.same(found, tuple(sorted(found)))
                self.same(len({arc[:3] for arc in found}), len(found))

    def test_arcs_that_lead_back_finish_a_token(self):
        chance = random.Random(7)
        for _ in range(60):
            tokens, book, begun = some_case(chance)
            for mode in ("behind", "healed"):
                count, arcs = priced(tokens, book, begun, mode)
                free = {(here, there) for here, _, there, price in arcs if price == 0}
                led = set(free)
                for _ in range(count):
                    led |= {(a, d) for a, b in led for c, d in free if b == c}
                self.same([here for here, there in led if here == there], [])
