"""When answers turned."""

from askedthen.answering import answer, rows_on
from askedthen.errors import InvalidArgument
from askedthen.spans import is_day
from askedthen.trees import TreeSource


def turns(keeper, schema, question, row, day):
    """The numbers of deeds behind which the answer turns for a row and a day, in ascending order.

    Raises InvalidArgument("day"), then BadQuestion.
    """
    if not is_day(day):
        raise InvalidArgument("day")
    turned = []
    held = False
    for number in range(len(keeper.deeds()) + 1):
        rows = answer(question, schema, TreeSource(keeper.tree(number)))
        holds = row in rows_on(rows, day)
        if holds != held:
            turned.append(number)
        held = holds
    return turned
