"""The interface: a list of calls about one text is read call by call, and answered."""

from proofmarks.proof import Proof

BEGINS_CALL = 0
READER_CALL = 1
CHANGE_CALL = 2
KEEP_CALL = 3
MOVE_CALL = 4
WITHDRAW_CALL = 5
CLASHES_CALL = 6
CARRY_CALL = 7
SHOWN_CALL = 8
WHO_CALL = 9
MARK_CALL = 10
GONE_CALL = 11

# By a call's number: how many whole numbers it has, and whether a row follows them.
FORMS = (
    (0, True),
    (1, False),
    (3, True),
    (3, False),
    (4, False),
    (1, False),
    (0, False),
    (0, False),
    (0, False),
    (1, False),
    (1, False),
    (0, False),
    (0, True),
)


def answers(calls):
    """Answer each call in order: how many numbers are answered, then these."""
    proof = Proof()
    given = []
    place = 0
    while place < len(calls):
        call = calls[place]
        behind_numbers = place + 1 + FORMS[call][0]
        numbers = calls[place + 1:behind_numbers]
        place = behind_numbers
        row = []
        if FORMS[call][1]:
            place = behind_numbers + 1 + calls[behind_numbers]
            row = calls[behind_numbers + 1:place]
        answered = answer_call(proof, call, numbers, row)
        given.append(len(answered))
        given.extend(answered)
    return given


def answer_call(proof, call, numbers, row):
    """Hand one call on to the proof, and give back what it answers."""
    if call == BEGINS_CALL:
        return proof.begins(row)
    if call == READER_CALL:
        return proof.add_reader(numbers[0])
    if call == CHANGE_CALL:
        return proof.change(numbers[0], numbers[1], numbers[2], row)
    if call == KEEP_CALL:
        return proof.keep(numbers[0], numbers[1], numbers[2])
    if call == MOVE_CALL:
        return proof.move(numbers[0], numbers[1], numbers[2], numbers[3])
    if call == WITHDRAW_CALL:
        return proof.withdraw(numbers[0])
    if call == CLASHES_CALL:
        return proof.clashes()
    if call == CARRY_CALL:
        return proof.carry()
    if call == SHOWN_CALL:
        return proof.shown()
    if call == WHO_CALL:
        return proof.who(numbers[0])
    if call == MARK_CALL:
        return proof.tell_mark(numbers[0])
    if call == GONE_CALL:
        return proof.gone()
    return proof.test(row)
