"""The interface: the calls of one line in, their answers out."""

from copieskept.calls import Calendar

# How many numbers a call takes: make, set, remove, push, pull, forget, then shown, house, clashes, settle, state.
CALL_SIZES = {0: 4, 1: 4, 2: 2, 3: 2, 4: 2, 5: 1, 6: 1, 7: 0, 8: 1, 9: 3, 10: 1}


def answers(calls):
    calendar = Calendar()
    told = []
    start = 0
    while start < len(calls):
        end = start + 1 + CALL_SIZES[calls[start]]
        answer = calendar.answer(calls[start], calls[start + 1:end])
        told.append(len(answer))
        told.extend(answer)
        start = end
    return told
