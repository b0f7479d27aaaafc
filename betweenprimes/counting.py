"""Calls on one new object, handed in as one list and answered as one."""

from betweenprimes.calls import ARGUMENTS, BEGIN, COLUMN, EXCHANGE, FEWEST, FOLD, FOLDEDALL, FOLDS, INSIDE
from betweenprimes.calls import LONG, NEXT, NOT_BEGUN, OVER, PAIRS, PLACE, ROUND, ROW, TOLD, UNDER, WHERE
from betweenprimes.cards import card_answer
from betweenprimes.folding import fold_answer
from betweenprimes.ordering import order_answer
from betweenprimes.points import point_answer
from betweenprimes.session import Session


def call_answer(session, number, given):
    """What one call answers, as a list; a refusal stands in it alone."""
    if number == BEGIN:
        return session.begin(given[0], given[1])
    if not session.begun():
        return [NOT_BEGUN]
    if number == EXCHANGE:
        return session.exchange()
    if number == NEXT:
        return session.move_on()
    if number == TOLD:
        return session.told()
    if number in (FOLD, FOLDS, FOLDEDALL):
        return fold_answer(session.p, number, given)
    if number in (COLUMN, ROW, UNDER, OVER, INSIDE):
        return point_answer(session.p, session.q, number, given)
    if number in (PLACE, WHERE, PAIRS, LONG, FEWEST, ROUND):
        return order_answer(session.p, number, given)
    return card_answer(session.p, session.q, number, given)


def answers(calls):
    """For each call, in order, how many numbers it answers, then these."""
    session = Session()
    told = []
    at = 0
    while at < len(calls):
        number = calls[at]
        end = at + 1 + ARGUMENTS[number]
        answer = call_answer(session, number, calls[at + 1:end])
        told.append(len(answer))
        told.extend(answer)
        at = end
    return told
