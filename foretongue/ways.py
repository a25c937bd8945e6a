"""Whether all possible orders of told shifts do the same to all words of a stock."""

from foretongue.alike import MOST_SHIFTS, MOST_WORDS
from foretongue.befores import need_possible
from foretongue.errors import BadCourse, TooMany
from foretongue.needs import need_number, need_stock
from foretongue.orders import fits_of, grouped, outcomes_by, possible_among
from foretongue.pairs import need_pairs
from foretongue.papers import Denial, Paper
from foretongue.shifts import line_of, shifted
from foretongue.stocks import list_words, longer_words, many_words

LONGEST_PROBE = 4


class OneWay(Paper):
    """All possible orders: they are alike on the stock."""

    def __init__(self, orders):
        super().__init__("oneway", orders)
        self.orders = self.parts[0]


class TwoWays(Denial):
    """Two possible orders, and a word of the stock that parts them."""

    def __init__(self, first, second, word):
        super().__init__("twoways", first, second, word)
        self.first, self.second, self.word = self.parts


def widest_told(told):
    """How many sounds a word has at most that is wanted to part two orders."""
    return 2 * len(told.shifts) + 1


def need_told_stock(told, stock):
    """The errors of told pairs and a stock."""
    need_pairs(told, "told")
    need_stock(stock, "stock")


def need_all_ways(told, stock):
    """The errors behind the parameters of what is told of all words."""
    if any([shift.falls for shift in told.shifts]):
        raise BadCourse("falls")
    if len(told.shifts) > MOST_SHIFTS:
        raise TooMany("shifts", MOST_SHIFTS)
    if many_words(stock, widest_told(told)) > MOST_WORDS:
        raise TooMany("words", MOST_WORDS)


def possible_or_error(told):
    """The ascending list of the possible orders; Impossible without any."""
    fits = fits_of(told)
    need_possible(told, fits)
    return possible_among(told, fits)


def lines_by_order(told, orders, words):
    """For each of some orders what its course makes of the line of some words.

    Orders that begin alike have what they begin with done once.
    """
    lines = {(): line_of(words)}
    for order in orders:
        for many in range(len(order)):
            if order[:many + 1] not in lines:
                lines[order[:many + 1]] = shifted(told.shifts[order[many]], lines[order[:many]])
    return [lines[order] for order in orders]


def first_parting(words, lines):
    """The first of some words with unlike outcomes in some lines, None without any."""
    if all([line == lines[0] for line in lines]):
        return None
    outcomes = [line[1:-1].split("#") for line in lines]
    for at, word in enumerate(words):
        if any([made[at] != outcomes[0][at] for made in outcomes]):
            return word
    return None


def least_parting_orders(told, orders, stock):
    """The least word of the stock that parts any two of some orders, None if they are alike."""
    words = [""]
    for _ in range(widest_told(told)):
        words = longer_words(words, stock)
        word = first_parting(words, lines_by_order(told, orders, words))
        if word is not None:
            return word
    return None


def one_way(told, stock):
    """The OneWay of all possible orders, or the TwoWays of the least word that parts any two."""
    need_told_stock(told, stock)
    need_all_ways(told, stock)
    possible = possible_or_error(told)
    word = least_parting_orders(told, possible, stock)
    if word is None:
        return OneWay(possible)
    outcomes = [outcomes_by(told, order, [word]) for order in possible]
    unlike = [order for order, outcome in zip(possible, outcomes) if outcome != outcomes[0]]
    return TwoWays(possible[0], unlike[0], word)


def alike_orders(told, stock):
    """The possible orders in groups of those that are alike on the stock, by their first orders."""
    need_told_stock(told, stock)
    need_all_ways(told, stock)
    possible = possible_or_error(told)
    words = list_words(stock, widest_told(told))
    groups = grouped(possible, lines_by_order(told, possible, words))
    return tuple([tuple(orders) for orders in list(groups.values())])


def parted_mask(outcomes):
    """The mask of the pairs of outcomes that are unlike."""
    mask = 0
    for at, mine in enumerate(outcomes):
        for its in outcomes[:at]:
            mask = 2 * mask + (1 if mine != its else 0)
    return mask


def first_words_by_mask(told, orders, words):
    """The first word for each mask of pairs of orders that a word parts, in the order of the words."""
    made = [line[1:-1].split("#") for line in lines_by_order(told, orders, words)]
    found = {}
    for word, *outcomes in zip(words, *made):
        found.setdefault(parted_mask(outcomes), word)
    return [(mask, word) for mask, word in found.items() if mask > 0]


def union_of(told_masks):
    """The mask of all that is in some masks, each with its word."""
    whole = 0
    for mask, _ in told_masks:
        whole |= mask
    return whole


def first_cover(told_masks, wanted, many):
    """The first so many words whose masks together have what is wanted, None without any."""
    if wanted == 0:
        return []
    if many == 0 or union_of(told_masks) & wanted != wanted:
        return None
    for at, (mask, word) in enumerate(told_masks):
        behind = first_cover(told_masks[at + 1:], wanted & ~mask, many - 1)
        if behind is not None:
            return [word, *behind]
    return None


def probe(told, stock, most):
    """The first tuple of fewest words of at most so many sounds that part all orders that such words part."""
    need_told_stock(told, stock)
    need_number(most, "most", 1, LONGEST_PROBE)
    need_all_ways(told, stock)
    possible = possible_or_error(told)
    # Of words that part the same orders the first one is in each tuple that is sought.
    told_masks = first_words_by_mask(told, possible, list_words(stock, most))
    wanted = union_of(told_masks)
    for many in range(len(told_masks) + 1):
        words = first_cover(told_masks, wanted, many)
        if words is not None:
            return tuple(words)
    return ()
