"""Sales, bids and wrong values that several tests use."""

import itertools
import random

LAMP = (((0, 1), (10, 2), (50, 5)), 5, 5)

NOT_INTEGERS = [
    True, False, None, "", "5", "a", "abc", [], [5], (), (5,), (5, 60), [[5]], ((5,),),
    [[[[[[5]]]]]], ((((((5,),),),),),), [(None, True), ["a", ([],)]],
]

NOT_BIDDERS = [
    "g", "", "ab", "A", "F", "`", " ", "a ", "abcdef", "bc", 0, 1, 5, True, False, None,
    [], ["a"], (), ("a",), ("a", "b"), [[[[[["a"]]]]]], (((((("a",),),),),),),
]

NOT_SALES = [
    None, True, False, 0, 5, "", "abc", "sale", [], (), [()], ((),), (None, None, None),
    [((0, 1),), 5, 5], [[[0, 1]], 5, 5], ([(0, 1)], 5, 5), (([0, 1],), 5, 5),
    (((0, 1),), 5), (((0, 1),), 5, 5, 5), ((0, 1), 5, 5), (0, 5, 5), ("0", 5, 5), ("ab", 5, 5),
    ((), 5, 5), (((),), 5, 5), (((0,),), 5, 5), (((0, 1, 2),), 5, 5), (("01",), 5, 5),
    (((((((0, 1),),),),),), 5, 5), [[[[[[5]]]]]], ((((((5,),),),),),),
]

NOT_BID_LISTS = [
    None, True, False, 0, 5, "", "ab", "abc", (), (("a", 5),), ("a", 5), ((("a", 5),),),
    ["a"], [5], [None], [True], [[]], [()], [["a", 5]], ["a5"], [("a",)], [("a", 5, 5)],
    [(5, "a")], [("a", 5), None], [("a", 5), ["b", 6]], [[("a", 5)]], [(("a", 5),)],
    [[[[[[5]]]]]], ((((((5,),),),),),), [(((((5,),),),),)],
]

NOT_BIDS = [
    None, True, False, 0, 5, -1, "", "a", "a5", "ab", [], (), [()], ["a", 5], ("a",), ("a", 5, 5),
    (5, "a"), [("a", 5)], (("a", 5),), ("a", 0), ("a", 201), ("a", -1), ("a", True), ("a", "5"),
    ("a", None), ("a", [5]), ("a", (5,)), ("g", 5), ("", 5), ("ab", 5), ("A", 5), (None, 5),
    (("a",), 5), (["a"], 5), [[[[[["a"]]]]]], (((((("a", 5),),),),),),
]

NOT_TIMED = [
    None, True, False, 0, 5, "", "abc", (), ((0, "a", 5),), (0, "a", 5), [5], ["0a5"], [[]], [()],
    [[0, "a", 5]], [("a", 5)], [(0, "a")], [(0, "a", 5, 5)], [(0, ("a", 5))], [("a", 0, 5)],
    [(-1, "a", 5)], [(101, "a", 5)], [(True, "a", 5)], [(False, "a", 5)], [("0", "a", 5)],
    [(None, "a", 5)], [([0], "a", 5)], [((0,), "a", 5)], [(0, "g", 5)], [(0, "", 5)],
    [(0, "ab", 5)], [(0, "A", 5)], [(0, None, 5)], [(0, ["a"], 5)], [(0, "a", 0)],
    [(0, "a", 201)], [(0, "a", -1)], [(0, "a", True)], [(0, "a", "5")], [(0, "a", None)],
    [(0, "a", [5])], [(1, "a", 5), (0, "b", 6)], [(3, "a", 5), (4, "b", 6), (3, "c", 7)],
    [(5, "a", 5), (True, "b", 6)], [(0, "a", 5), None], [(0, "a", 5), (1, "b", 0)],
    [(0, "a", 5), [1, "b", 6]], [[(0, "a", 5)]], [((0, "a", 5),)], [(100, "a", 5), (101, "a", 6)],
    [(5, "a", 20)] * 9, [[[[[[5]]]]]], ((((((5,),),),),),), [(((((5,),),),),)],
]

# Small numbers make ties and neighbouring prices frequent.
SMALL_SALES = [
    (((0, 1),), 1, 1),
    (((0, 1),), 3, 5),
    (((0, 2),), 3, 3),
    (((0, 3),), 2, 7),
    (((0, 1), (4, 2)), 2, 2),
    (((0, 1), (3, 3)), 2, 6),
    (((0, 50),), 2, 9),
]


def spoiled(value):
    """Yield values that are like a right value, but wrong at one place."""
    if isinstance(value, int):
        yield from (True, False, None, str(value), [value], (value,), [[[value]]])
    elif isinstance(value, str):
        yield from (True, False, None, 1, "", "g", value * 2, value.upper(), [value], (value,))
    else:
        yield tuple(value) if isinstance(value, list) else list(value)
        yield from (True, False, None, 5, "abc", [value], (value,))
        for place, part in enumerate(value):
            for wrong in spoiled(part):
                parts = list(value)
                parts[place] = wrong
                yield parts if isinstance(value, list) else tuple(parts)


def small_cases():
    """Yield all lists of up to 3 bids with small amounts, in each small sale."""
    choices = list(itertools.product("abc", range(1, 9)))
    for sale in SMALL_SALES:
        for many in range(4):
            for bids in itertools.product(choices, repeat=many):
                yield sale, list(bids)


def random_sale(source):
    """Return a sale whose numbers come from the whole of their ranges."""
    many = source.randint(1, 4)
    bounds = [0] + sorted(source.sample(range(1, 201), many - 1))
    steps = sorted(source.sample(range(1, source.choice([8, 51])), many))
    start = source.randint(1, source.choice([5, 100]))
    reserve = source.choice([start, source.randint(start, 200)])
    return tuple(zip(bounds, steps)), start, reserve


def random_bids(source):
    """Return up to 8 bids, mostly from ranges in which many are not refused."""
    letters = "abcdef"[:source.randint(1, 6)]
    low = source.randint(1, 100)
    high = source.randint(low, 200)
    many = source.randint(0, 8)
    amounts = [source.randint(low, high) for _ in range(many)]
    if source.randint(0, 2):
        amounts = sorted(amounts)
    return [(source.choice(letters), amount) for amount in amounts]


def large_cases():
    """Yield many sales and bids, the same ones in each run."""
    source = random.Random(20)
    for _ in range(20000):
        yield random_sale(source), random_bids(source)


def all_cases():
    """Yield the small cases and the large ones."""
    yield from small_cases()
    yield from large_cases()


def single_cases():
    """Yield lists of bids of different bidders, from small and from large ranges."""
    for sale in SMALL_SALES:
        for many in range(4):
            for amounts in itertools.product(range(1, 9), repeat=many):
                yield sale, list(zip("abc", amounts))
    source = random.Random(31)
    for number in range(400):
        many = source.randint(0, 6) if number < 60 else source.randint(2, 4)
        low = source.randint(1, 100)
        high = source.randint(low, min(200, low + source.choice([5, 20, 100])))
        letters = source.sample("abcdef", many)
        sale = random_sale(source)
        yield sale, [(letter, source.randint(low, high)) for letter in letters]


def further_cases():
    """Yield sales and bids, few enough to try many further bids after each."""
    yield from itertools.islice(small_cases(), 0, None, 97)
    yield from itertools.islice(large_cases(), 1500)


def timed_cases(many):
    """Yield sales and timed bids with ends and spans, the same ones in each run."""
    source = random.Random(43)
    for _ in range(many):
        bids = random_bids(source)
        end = source.choice([0, source.randint(0, 100), 100])
        early = max(0, end - 30)
        times = sorted(source.choices(range(early, min(100, end + 30) + 1), k=len(bids)))
        if source.randint(0, 2) == 0:
            times = sorted(source.choices(range(101), k=len(bids)))
        timed = [(time, bidder, amount) for time, (bidder, amount) in zip(times, bids)]
        yield random_sale(source), timed, end, source.choice([0, 20, source.randint(0, 20)])
