"""The cheapest lines for several texts: points 191 to 193."""

from upforgood.checks import is_between, is_integer, is_list
from upforgood.errors import InvalidPrices, InvalidTexts, NoLine
from upforgood.specs import specs_for_all
from upforgood.texts import is_text
from upforgood.trees import bare_tree

MOST_TEXTS = 4
HIGHEST_PRICE = 1000


def allowed(ends, pairs, texts, u, w):
    tree = bare_tree(ends, pairs)
    _check_texts(tree, texts)
    if not is_integer(u) or not is_integer(w) or (u, w) not in [line[:2] for line in tree.lines]:
        raise NoLine(u, w)
    specs = specs_for_all(tree, texts, u, w)
    letters = [spec[1:] for spec in specs if spec[0] == "letters"]
    least = [(m, b) for m, b in letters if (m - 1, b) not in letters and (m, b - 1) not in letters]
    return (least, min([spec[1] for spec in specs if spec[0] == "wires"], default=None))


def cheapest(ends, pairs, prices, texts):
    tree = bare_tree(ends, pairs)
    _check_prices(tree, prices)
    _check_texts(tree, texts)
    best = []
    for (u, w, _), price in zip(tree.lines, prices):
        priced = [(_cost(spec, price), spec) for spec in specs_for_all(tree, texts, u, w)]
        to_be_had = [(cost, spec) for cost, spec in priced if cost is not None]
        if to_be_had == []:
            return None
        best.append(min(to_be_had))
    return (sum([cost for cost, _ in best]), tuple([spec for _, spec in best]))


def cost_of(tree, prices):
    _check_prices(tree, prices)
    costs = [_cost(spec, price) for (_, _, spec), price in zip(tree.lines, prices)]
    return None if None in costs else sum(costs)


def _cost(spec, price):
    """What a line of a spec costs, or None if it is not to be had."""
    first, second, wire = price
    if spec[0] == "wires":
        return None if wire is None else spec[1] * wire
    if first is None or second is None:
        return None
    return spec[1] * first + spec[2] * second


def _check_prices(tree, prices):
    if not is_list(prices) or len(prices) != len(tree.lines) or not all([_is_price(price) for price in prices]):
        raise InvalidPrices(prices)


def _is_price(value):
    if not isinstance(value, tuple) or len(value) != 3:
        return False
    return all([cost is None or is_between(cost, 0, HIGHEST_PRICE) for cost in value])


def _check_texts(tree, texts):
    if not is_list(texts) or not is_between(len(texts), 1, MOST_TEXTS):
        raise InvalidTexts(texts)
    if not all([is_text(tree, text) for text in texts]):
        raise InvalidTexts(texts)
