"""What the tests share: orders told by going through all of them, and the refusals that many functions have."""

import copy
import itertools
import random

from trussel.errors import BadAnvils, BadCoin, BadRule, TooMany

VERY_GREAT = 10 ** 5000
PLAIN = (1, (), 1, (), 0)
BAD_COIN = (100, (), 1, (), 0)
NO_ANVILS = (0, 10, -1, -9, VERY_GREAT, -VERY_GREAT)

# Lower dies 1 and 2, upper dies 3 and 4.
RULED = [(1, (), 3, (), 0), (2, (), 4, (), 0), (1, (0,), 4, (1,), 0)]
GOOD_RULES = [("coin", 0, 2), ("lower", 1, 2), ("upper", 3, 4)]
NO_RULES = (
    ("", 0, 1), ("Coin", 0, 1), ("coin ", 0, 1), ("die", 1, 2), ("lowe", 1, 2), ("both", 1, 2),
    ("coin", 0, 0), ("coin", 2, 2), ("coin", 3, 3), ("lower", 1, 1), ("upper", 3, 3), ("upper", 4, 4),
    ("coin", 0, 3), ("coin", 3, 0), ("coin", -1, 0), ("coin", 0, -1),
    ("coin", VERY_GREAT, 0), ("coin", 0, VERY_GREAT), ("coin", -VERY_GREAT, 0),
    ("lower", 1, 3), ("lower", 3, 1), ("lower", 3, 4), ("lower", 0, 1), ("lower", 2, 0), ("lower", 1, -2),
    ("lower", 99, 1), ("lower", 1, 100), ("lower", VERY_GREAT, 1), ("lower", 1, -VERY_GREAT),
    ("upper", 3, 2), ("upper", 2, 3), ("upper", 1, 2), ("upper", 0, 3), ("upper", 4, -3),
    ("upper", 99, 3), ("upper", 4, 100), ("upper", VERY_GREAT, 4), ("upper", 3, -VERY_GREAT),
)


def worn_ahead(ahead, coin):
    """Whether the coin ahead shows a mark that this one of the same die lacks."""
    lower = ahead[0] == coin[0] and set(ahead[1]) - set(coin[1])
    upper = ahead[2] == coin[2] and set(ahead[3]) - set(coin[3])
    return bool(lower or upper)


def rule_broken(coins, rule, order, k):
    word, one, other = rule
    ahead = order[:k]
    if word == "coin":
        return order[k] == other and one not in ahead
    field = {"lower": 0, "upper": 2}[word]
    return coins[order[k]][field] == other and one not in [coins[i][field] for i in ahead]


def plain_faults(coins, anvils, rules, order, k):
    """All faults of the coin at number k, of a list that has each place once."""
    coin = coins[order[k]]
    ahead = [coins[i] for i in order[:k]]
    faults = []
    if any(worn_ahead(one, coin) for one in ahead):
        faults.append("wear")
    if coin[4] != 0 and any(one[4] > coin[4] for one in ahead):
        faults.append("year")
    begun = {coins[i][0] for i in order[:k + 1]}
    going_on = {coins[i][0] for i in order[k:]}
    if len(begun & going_on) > anvils:
        faults.append("anvil")
    if any(rule_broken(coins, rule, order, k) for rule in rules):
        faults.append("rule")
    return faults


def plain_order_fault(coins, anvils, rules, order):
    """The fault of a list that has each place once."""
    for k in range(len(order)):
        faults = plain_faults(coins, anvils, rules, order, k)
        if faults:
            return (faults[0], k)
    return None


def plain_orders(coins, anvils, rules):
    """All orders, rising."""
    lists = [list(order) for order in itertools.permutations(range(len(coins)))]
    return [order for order in lists if plain_order_fault(coins, anvils, rules, order) is None]


def stand_places(coins, stand):
    return [place for place in range(len(coins)) if stand // 2 ** place % 2]


def plain_may_follow(coins, anvils, rules, stand, place):
    ahead = stand_places(coins, stand)
    if place in ahead:
        return False
    behind = [i for i in range(len(coins)) if i not in ahead + [place]]
    return not plain_faults(coins, anvils, rules, ahead + [place] + behind, len(ahead))


def plain_bars(coins, anvils, rules, stands):
    """Whether it is a paper, word by word."""
    every = 2 ** len(coins) - 1
    if stands != sorted(set(stands)) or 0 not in stands or every in stands:
        return False
    if not all(0 <= stand <= every for stand in stands):
        return False
    return all(
        stand + 2 ** place in stands
        for stand in stands for place in range(len(coins))
        if plain_may_follow(coins, anvils, rules, stand, place)
    )


def some_rules(chance, coins):
    """None to three good rules, also twice and against one another."""
    rules = []
    for word in chance.choices(("coin", "lower", "upper"), k=chance.randrange(4)):
        things = {
            "coin": list(range(len(coins))),
            "lower": sorted({coin[0] for coin in coins}),
            "upper": sorted({coin[2] for coin in coins}),
        }[word]
        if len(things) > 1:
            rules.append((word, *chance.sample(things, 2)))
    return rules


def some_cases(many, most_coins):
    """Small lists of coins with anvils and rules, the same ones each time."""
    cases = []
    for seed in range(many):
        chance = random.Random(seed)
        marks = chance.choice((((), (0,)), ((), (0,), (0, 1)), ((), (0,), (1,)), ((),)))
        years = chance.choice(((0,), (0, 1400), (0, 0, 1400, 1401)))
        coins = [
            (chance.randint(1, 3), chance.choice(marks), chance.randint(1, 3), chance.choice(marks), chance.choice(years))
            for _ in range(chance.randint(0, most_coins))
        ]
        cases.append((coins, chance.randint(1, 3), some_rules(chance, coins)))
    return cases


def mint_seen(mint):
    """All that a mint tells of itself."""
    return {
        "anvils": mint.anvils(),
        "lower": [mint.marks("lower", die) for die in range(1, mint.dies("lower") + 1)],
        "upper": [mint.marks("upper", die) for die in range(1, mint.dies("upper") + 1)],
        "states": [mint.state(die) for die in range(1, mint.dies("lower") + 1)],
        "year": mint.year(),
        "coins": [mint.coin(number) for number in range(mint.struck())],
    }


def some_deed(chance, year):
    """A deed of a mint that is somewhat further on; many are refused."""
    return chance.choice((
        ("cut", chance.choice(("lower", "upper"))),
        ("fix", chance.randint(1, 9)),
        ("fix", chance.randint(1, 9)),
        ("off", chance.randint(1, 30)),
        ("mark", chance.choice(("lower", "upper")), chance.randint(1, 9), chance.randint(0, 7)),
        ("strike", chance.randint(1, 9), chance.randint(1, 9)),
        ("strike", chance.randint(1, 9), chance.randint(1, 9)),
        ("strike", chance.randint(1, 9), chance.randint(1, 9)),
        ("year", year + chance.randint(0, 2)),
    ))


def do_at(mint, deed):
    """Do a ledger's deed at a mint."""
    word, *things = deed
    deeds = {
        "cut": mint.cut, "fix": mint.fix, "off": mint.lay_off, "mark": mint.mark, "strike": mint.strike,
        "year": mint.begin_year,
    }
    return deeds[word](*things)


class CoinRefusals:
    """For a TestCase whose asked(coins) tells calls, also with what they refuse themselves."""

    def assert_each_refuses(self, calls, handed, refusal):
        before = copy.deepcopy(handed)
        for call in calls:
            with self.assertRaises(refusal):
                call()
            self.assertEqual(handed, before)

    def assert_coins_refused(self, coins, refusal):
        self.assert_each_refuses(self.asked(coins), coins, refusal)

    def test_too_many(self):
        self.assert_coins_refused([PLAIN] * 10, TooMany)
        self.assert_coins_refused([PLAIN] * 100, TooMany)

    def test_too_many_ahead_of_a_bad_coin(self):
        self.assert_coins_refused([BAD_COIN] * 10, TooMany)
        self.assert_coins_refused([BAD_COIN] + [PLAIN] * 9, TooMany)
        self.assert_coins_refused([PLAIN] * 9 + [BAD_COIN], TooMany)

    def test_bad_coin(self):
        for bad in (
            BAD_COIN, (0, (), 1, (), 0), (1, (8,), 1, (), 0), (1, (), -1, (), 0),
            (1, (), 1, (1, 0), 0), (1, (), 1, (), 10000), (1, (), 1, (), VERY_GREAT),
        ):
            self.assert_coins_refused([bad], BadCoin)
            self.assert_coins_refused([PLAIN] * 8 + [bad], BadCoin)


class RuleRefusals(CoinRefusals):
    """For a TestCase whose asked_with(coins, anvils, rules) tells calls, also with what they refuse themselves."""

    def asked(self, coins):
        return [
            call for anvils in (1, 0, 10) for rules in ([], [("none", 0, 0)])
            for call in self.asked_with(coins, anvils, rules)
        ]

    def assert_refused(self, coins, anvils, rules, refusal):
        self.assert_each_refuses(self.asked_with(coins, anvils, rules), [coins, rules], refusal)

    def test_bad_anvils_ahead_of_bad_rules(self):
        for anvils in NO_ANVILS:
            for coins in ([], RULED):
                self.assert_refused(coins, anvils, [], BadAnvils)
                self.assert_refused(coins, anvils, [NO_RULES[0]], BadAnvils)
            self.assert_refused(RULED, anvils, GOOD_RULES, BadAnvils)

    def test_true_is_no_count_of_anvils(self):
        self.assert_refused(RULED, True, [], BadAnvils)

    def test_bad_rule(self):
        for rule in NO_RULES:
            self.assert_refused(RULED, 1, [rule], BadRule)
            self.assert_refused(RULED, 9, GOOD_RULES + [rule], BadRule)
            self.assert_refused(RULED, 2, [rule] + GOOD_RULES, BadRule)

    def test_no_rule_for_no_coins_or_for_one(self):
        for rule in GOOD_RULES:
            self.assert_refused([], 1, [rule], BadRule)
            self.assert_refused([PLAIN], 1, [rule], BadRule)

    def test_true_and_false_are_no_places_and_no_dies(self):
        for rule in (("coin", False, 2), ("coin", 0, True), ("lower", True, 2), ("lower", 2, True)):
            self.assert_refused(RULED, 2, [rule], BadRule)
