"""Carries a program out, up to its end or its first fault."""

from gridfit.faults import Fault
from gridfit.flow import behind, flow_act
from gridfit.points import point_act
from gridfit.shifting import shift_act
from gridfit.stack import stack_act
from gridfit.state import state_act

INSTRUCTION_LIMIT = 5000


def act_of(byte):
    act = stack_act(byte)
    if act is None:
        act = flow_act(byte)
    if act is None:
        act = state_act(byte)
    if act is None:
        act = point_act(byte)
    if act is None:
        act = shift_act(byte)
    return act


def carry_one_out(run):
    if run.done == INSTRUCTION_LIMIT:
        raise Fault(7)
    act = act_of(run.byte)
    if act is None:
        raise Fault(5)
    run.after = behind(run.code, run.place)
    act(run)
    run.done += 1


def carry_all_out(run):
    ended = False
    while not ended:
        run.place = run.after
        if run.place < len(run.code):
            run.byte = run.code[run.place]
            carry_one_out(run)
        else:
            # What is told of a code's end within a function has 0 for a byte.
            run.byte = 0
            if len(run.frames) > 0:
                raise Fault(4)
            ended = True


def fault_of(run):
    """Carries the run's program out; what is told of its fault, or an empty list if it comes to its end."""
    # A call changes code and whose only as the last thing that it does: at a fault both are still the instruction's.
    try:
        carry_all_out(run)
    except Fault as fault:
        return [fault.number, run.place, run.whose, run.byte, run.done]
    return []
