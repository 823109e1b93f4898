"""answers(calls): the calls on one new object, one behind another, and what is answered to each."""

from pagestates.refusals import Refusal
from pagestates.views import View, answer_call, call_length


def answer_or_refusal(view, call):
    try:
        return answer_call(view, call)
    except Refusal as refusal:
        return [refusal.number]


def answers(calls):
    view = View()
    told = []
    at = 0
    while at < len(calls):
        length = call_length(calls, at)
        said = answer_or_refusal(view, calls[at:at + length])
        told.append(len(said))
        told.extend(said)
        at += length
    return told
