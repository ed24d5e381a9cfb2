"""Whether papers about sellers are right."""

from hindprice.checks import is_number
from hindprice.exact import is_less
from hindprice.robbers import Robbed, Safe, first_short, need_sold, robbed_at
from hindprice.shapes import is_word_of
from hindprice.words import need_few_words


def shows_seller(promise, days, seller, value):
    """Whether any value is a right Safe, or a right Robbed, for a seller."""
    need_sold(promise, days, seller)
    need_few_words(promise.goods, days)
    if isinstance(value, Safe) and value.__class__.__name__ == "Safe":
        return first_short(promise, days, seller) is None
    if isinstance(value, Robbed) and value.__class__.__name__ == "Robbed":
        return is_robbed(promise, days, seller, value)
    return False


def is_robbed(promise, days, seller, value):
    """Whether a Robbed tells a word at which a seller is short, and what it has and owes there."""
    if not is_word_of(value.course, promise.goods) or len(value.course) != days:
        return False
    if not is_number(value.has) or not is_number(value.owes):
        return False
    told = robbed_at(promise, seller, value.course)
    return value.has == told.has and value.owes == told.owes and is_less(told.has, told.owes)
