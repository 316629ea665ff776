"""What the tests have in common: families, lists that are none, and sets told the long way round."""

# The document's bounds on what is handed in: the largest number, the longest list.
LARGEST = 4294967295
LONGEST = 40

WRONG_N = [0, 6, 7, 8, 31, 32, 33, 63, 64, 65536, LARGEST - 1, LARGEST]


class Untouchable(list):
    """A list that fails on any change, so that one taken back again is seen, too."""

    def refuse(self, *args, **kwargs):
        raise AssertionError("what was handed in was changed")

    append = clear = extend = insert = pop = remove = reverse = sort = refuse
    __setitem__ = __delitem__ = __iadd__ = __imul__ = refuse


def all_sets(n):
    return list(range(2 ** n))


def family(n, number):
    """The family whose sets are the bits of number."""
    return [a for a in all_sets(n) if number >> a & 1]


def all_families(n):
    return [family(n, number) for number in range(2 ** 2 ** n)]


def some_families(n, how_many):
    """The corners and families of many sizes, the same ones each time."""
    whole = 2 ** 2 ** n - 1
    families = [[], [0], all_sets(n), [2 ** n - 1], all_sets(n)[1:], all_sets(n)[:-1]]
    seed = 12345
    for turn in range(how_many):
        picked = whole
        for _ in range(1 + turn % 4):
            seed = (seed * 6364136223846793005 + 1442695040888963407) % 2 ** 64
            picked &= seed >> 24
        families.append(family(n, picked if turn % 5 else whole & ~picked))
    return families


def ups(n):
    """All families that are up, each put together of two for one thing less."""
    if n == 0:
        return [[], [0]]
    smaller = ups(n - 1)
    return [x + [a + 2 ** (n - 1) for a in y] for x in smaller for y in smaller if set(x) <= set(y)]


def downs(n):
    """All families that are down: what is left of all sets without one that is up."""
    return [[a for a in all_sets(n) if a not in x] for x in ups(n)]


def some_of(families):
    """Few enough to be paired with one another: all of up to 200."""
    return families[::1 + len(families) // 200]


def few_of(families):
    return families[::1 + len(families) // 16]


def no_families(n):
    """Lists that are not a family of sets of n things (n from 1 to 5)."""
    beyond = 2 ** n
    whole = all_sets(n)
    lists = [
        [1, 0],
        [0, 0],
        [1, 1],
        [beyond - 1, 0],
        [beyond - 1, beyond - 1],
        [beyond],
        [0, beyond],
        [beyond, 0],
        [beyond + 1],
        [beyond, beyond + 1],
        [2 * beyond],
        [32],
        [LARGEST],
        [0, LARGEST],
        [0, 1, LARGEST],
        [2 ** 31],
        whole + [beyond],
        whole + [beyond - 1],
        whole + [0],
        [0] + whole,
        [beyond] + whole,
        list(reversed(whole)),
        list(range(LONGEST)),
        list(range(LONGEST - 1, -1, -1)),
        [0] * LONGEST,
        [beyond - 1] * LONGEST,
        [LARGEST] * LONGEST,
        list(range(LARGEST - LONGEST + 1, LARGEST + 1)),
        (whole * LONGEST)[:LONGEST],
    ]
    for place in range(len(whole) - 1):
        swapped = list(whole)
        swapped[place], swapped[place + 1] = swapped[place + 1], swapped[place]
        lists.append(swapped)
        lists.append(whole[:place + 1] + whole[place:])
        lists.append(whole[:place] + [beyond] + whole[place + 1:])
    return lists


def things_of(number):
    return frozenset(v for v in range(number.bit_length()) if number // 2 ** v % 2 == 1)


def number_of(things):
    return sum(2 ** v for v in things)


THINGS_OF = [things_of(number) for number in range(32)]


def like(n, a, things):
    """All sets that have of these things just those that a has."""
    asked = THINGS_OF[things]
    return {b for b in range(2 ** n) if THINGS_OF[b] & asked == THINGS_OF[a] & asked}


LIKE = {(n, a, things): like(n, a, things) for n in range(1, 6) for a in range(2 ** n) for things in range(2 ** n)}


def things_that_show(n, a, x, y):
    """All sets of things for which a is in both apart, rising."""
    has, other_has = set(x), set(y)
    whole = 2 ** n - 1
    return [
        things for things in range(2 ** n) if LIKE[n, a, things] <= has and LIKE[n, a, whole - things] <= other_has
    ]


def told(sets):
    """The answer for some sets of things: how many, then these, rising."""
    numbers = sorted(number_of(things) for things in set(sets))
    return [len(numbers)] + numbers


def check_kind(case, answer):
    case.assertIs(type(answer), list)
    for number in answer:
        case.assertIs(type(number), int)


def check_pure(case, call, n, *lists):
    """The call changes nothing and answers the same twice; gives back its answer."""
    ahead = [list(numbers) for numbers in lists]
    handed = [Untouchable(numbers) for numbers in lists]
    first = call(n, *handed)
    case.assertEqual([list(numbers) for numbers in handed], ahead)
    kept = list(first)
    # An answer belongs to the caller: what is done to it must not show the next time.
    first.append(-1)
    second = call(n, *lists)
    case.assertEqual(second, kept)
    case.assertEqual(list(lists), ahead)
    for numbers in lists:
        case.assertIsNot(second, numbers)
    check_kind(case, second)
    return second


def check_wrong_n(case, call, how_many_lists):
    for n in WRONG_N:
        for numbers in ([], [0], [0, 1], list(range(32)), [1, 0], [LARGEST], list(range(LONGEST)), [0] * LONGEST):
            with case.subTest(n=n, numbers=numbers):
                answer = check_pure(case, call, n, *[list(numbers) for _ in range(how_many_lists)])
                case.assertEqual(answer, [-22])


def check_one_refusals(case, call):
    """Each wrong n, and each wrong list, is refused."""
    check_wrong_n(case, call, 1)
    for n in range(1, 6):
        for wrong in no_families(n):
            with case.subTest(n=n, x=wrong):
                case.assertEqual(check_pure(case, call, n, wrong), [-22])


def check_pair_refusals(case, call):
    """Each wrong n, and each wrong list in x alone, in y alone and in both, is refused."""
    check_wrong_n(case, call, 2)
    for n in range(1, 6):
        right = ([], [0], [1], all_sets(n))
        for wrong in no_families(n):
            handed = [(wrong, good) for good in right] + [(good, wrong) for good in right]
            handed += [(wrong, list(wrong)), (wrong, [1, 0]), ([LARGEST], wrong)]
            for x, y in handed:
                with case.subTest(n=n, x=x, y=y):
                    case.assertEqual(check_pure(case, call, n, x, y), [-22])


def short_lists(n):
    """All lists of up to three numbers, from 0 to the first that is no set of n things."""
    lists = [[]]
    longer = [[]]
    for _ in range(3):
        longer = [numbers + [a] for numbers in longer for a in range(2 ** n + 1)]
        lists += longer
    return lists


def is_told_right(n, numbers):
    return numbers == sorted(set(numbers)) and set(numbers) <= set(all_sets(n))


def pairs(n):
    """All pairs of families for few things, many for more."""
    if n <= 2:
        families = all_families(n)
    else:
        families = some_families(n, {3: 60, 4: 40, 5: 30}[n])
    return [(x, y) for x in families for y in families]


def check_answers_of_pairs(case, call, expected):
    """The call answers what is expected of n, x and y, for ordinary families of all sizes."""
    for n in range(1, 6):
        for x, y in pairs(n):
            answer = check_pure(case, call, n, x, y)
            case.assertEqual(answer, expected(n, x, y), (n, x, y))


def check_pairs(case, call, of_two):
    """The call answers what of_two makes of each two sets."""
    def expected(n, x, y):
        return told([of_two(THINGS_OF[a], THINGS_OF[b]) for a in x for b in y])

    check_answers_of_pairs(case, call, expected)


def check_short_pairs(case, call):
    """Of all short lists just those that are families are taken."""
    for n, others in ((1, [[], [0], [0, 1], [1, 0], [2]]), (2, [[], [3], [0, 4], [2, 2]])):
        for numbers in short_lists(n):
            for other in others:
                taken = is_told_right(n, numbers) and is_told_right(n, other)
                for answer in (call(n, numbers, other), call(n, other, numbers)):
                    case.assertEqual(answer == [-22], not taken, (n, numbers, other))
                    case.assertEqual(answer[0] >= 0, taken, (n, numbers, other))


def singles(n):
    """All families for few things, many for more."""
    return all_families(n) if n <= 3 else some_families(n, 400)


def check_answers_of_singles(case, call, expected):
    """The call answers what is expected of n and x, for ordinary families of all sizes."""
    for n in range(1, 6):
        for x in singles(n):
            answer = check_pure(case, call, n, x)
            case.assertEqual(answer, expected(n, x), (n, x))


def check_singles(case, call, of_one):
    """The call answers all that of_one makes of each set."""
    def expected(n, x):
        return told([found for a in x for found in of_one(n, THINGS_OF[a])])

    check_answers_of_singles(case, call, expected)


def check_short_singles(case, call):
    """Of all short lists just those that are families are taken."""
    for n in range(1, 4):
        for numbers in short_lists(n):
            answer = call(n, numbers)
            taken = is_told_right(n, numbers)
            case.assertEqual(answer == [-22], not taken, (n, numbers))
            case.assertEqual(answer[0] >= 0, taken, (n, numbers))


def check_one_list_as_both(case, call):
    """One and the same list, handed in as x and as y, is answered like two equal ones."""
    for n in range(1, 6):
        for x in some_families(n, 10) + [[1, 0], [LARGEST]]:
            handed = Untouchable(x)
            case.assertEqual(call(n, handed, handed), call(n, list(x), list(x)))
            case.assertEqual(list(handed), x)


def of_kind(kind, n, kinds):
    """Families that kind tells to be one of these kinds: all for few things, many for more."""
    families = all_families(n) if n <= 3 else some_of(ups(n)) + some_of(downs(n))
    return [x for x in families if kind(n, x)[0] in kinds]


def check_in_common(case, kind, in_common):
    """Two that are up have in common, times all sets, no fewer than both multiplied; one up, one down, no more."""
    for n in range(1, 6):
        up = of_kind(kind, n, (1, 3))
        down = of_kind(kind, n, (2, 3))
        for x in up:
            for y in up:
                case.assertGreaterEqual(in_common(n, x, y) * 2 ** n, len(x) * len(y), (n, x, y))
            for y in down:
                case.assertLessEqual(in_common(n, x, y) * 2 ** n, len(x) * len(y), (n, x, y))
