"""Consoles, by which a workshop is worked with lines of text."""

from ironships.errors import InvalidPhrase, NotAWorkshop
from ironships.irons import five_of
from ironships.needles import tangent_at
from ironships.phrases import fraction_text, iron_text, phrase_in, row_text
from ironships.rounds import round_word
from ironships.workshops import Workshop


class Console:
    """Answers lines about a workshop, and changes it as they tell."""

    def __init__(self, shop):
        if not isinstance(shop, Workshop):
            raise NotAWorkshop(shop)
        self.shop = shop

    def __eq__(self, other):
        return self is other

    def say(self, line):
        """The answer to a line."""
        phrase = phrase_in(line)
        if phrase is None:
            raise InvalidPhrase(line)
        verb, name, told = phrase
        answer = ANSWERS[verb]
        return answer(self.shop, name, told)


def _put(shop, name, iron):
    shop.put(name, iron)
    return "done"


def _drop(shop, name, _):
    shop.drop(name)
    return "done"


def _undo(shop, _, _nothing):
    shop.undo()
    return "done"


def _names(shop, _, _nothing):
    names = shop.names
    return " ".join(names) if len(names) > 0 else "none"


def _iron(shop, name, _):
    return iron_text(shop.named(name))


def _five(shop, name, place):
    return row_text(five_of(shop.named(name), place))


def _word(shop, name, place):
    return round_word(five_of(shop.named(name), place))


def _tangent(shop, name, told):
    place, heading = told
    tangent = tangent_at(five_of(shop.named(name), place), heading)
    return "none" if tangent is None else fraction_text(tangent)


ANSWERS = {
    "put": _put,
    "drop": _drop,
    "undo": _undo,
    "names": _names,
    "iron": _iron,
    "five": _five,
    "word": _word,
    "tangent": _tangent,
}
