"""The interface: a list of calls in, a list of answers out, both as whole numbers."""

from likings.calls import Session, execute


def answers(calls):
    """Execute the calls on one new object; for each, how many numbers it answers, and these."""
    session = Session()
    found = []
    position = 0
    while position < len(calls):
        start = position + 2
        end = start + calls[position + 1]
        answer = execute(session, calls[position], calls[start:end])
        found.append(len(answer))
        found.extend(answer)
        # Behind its numbers a call tells how many lists it has; no call has one.
        position = end + 1
    return found
