"""Stories: deeds done one after the other, their answers, and what is there behind them."""

from freshbook.errors import NoAnswer, NoClock, NoDesk, NoThing, Stopped
from freshbook.yard import Yard


def answers(plan, things, deeds):
    yard = Yard(plan, things)
    return [answer_to(yard, deed) for deed in deeds]


def values_after(plan, things, deeds):
    return yard_after(plan, things, deeds).all_values()


def copies_after(plan, things, deeds):
    return yard_after(plan, things, deeds).all_copies()


def yard_after(plan, things, deeds):
    yard = Yard(plan, things)
    for deed in deeds:
        answer_to(yard, deed)
    return yard


def answer_to(yard, deed):
    try:
        return do_deed(yard, deed)
    except NoDesk:
        return "no desk"
    except NoThing:
        return "no thing"
    except Stopped:
        return "stopped"
    except NoClock:
        return "no clock"
    except NoAnswer:
        return "no answer"


def do_deed(yard, deed):
    kind = deed[0]
    if kind == "pass":
        return yard.pass_time(deed[1])
    if kind == "shift":
        return yard.shift_clock(deed[1], deed[2])
    if kind == "read":
        return yard.read_thing(deed[1], deed[2])
    if kind == "change":
        return yard.ask_change(deed[1], deed[2], deed[3])
    if kind == "try":
        return yard.try_change(deed[1])
    if kind == "back":
        return yard.give_back(deed[1], deed[2])
    if kind == "stop":
        return yard.stop_desk(deed[1])
    return yard.wake_desk(deed[1])
