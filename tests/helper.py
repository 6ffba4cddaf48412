"""Calls written down plainly, and their answers taken apart again."""

from evenformdesk.desk import answers

CLEAR = [1]
DONE = [3]
MOST = 6000


def take(data, most=MOST):
    return [2, most, len(data), *data]


def ask(*calls):
    """The answers to the calls, one each: a number, or (0 or -1, used, made) of xm_take."""
    numbers = answers([number for call in calls for number in call])
    told = []
    at = 0
    for call in calls:
        size = numbers[at]
        answer = numbers[at + 1:at + 1 + size]
        at += 1 + size
        if call[0] == 2:
            told.append((answer[0], answer[1], bytes(answer[2:])))
        else:
            assert size == 1
            told.append(answer[0])
    assert at == len(numbers)
    return told


def ask_new(*calls):
    """The same on a cleared text, without the answer of xm_clear."""
    return ask(CLEAR, *calls)[1:]


def whole(data):
    """(what xm_take answers, what xm_done answers) for a text that comes at once."""
    return tuple(ask_new(take(data), DONE))


def made_whole(case, data):
    """What a whole and faultless text goes out as."""
    (status, used, made), done = whole(data)
    case.assertEqual((status, used, done), (0, len(data), 1), data)
    return made


def check_fault(case, data, used, made):
    """The fault is met with the last byte of data: not sooner, and not later."""
    with case.subTest(data=data[:80]):
        status, count, before = ask_new(take(data[:-1]))[0]
        case.assertEqual((status, count), (0, len(data) - 1), "sooner")
        case.assertEqual(ask_new(take(data), DONE), [(-1, used, made), 0])
        first, last, done = ask_new(take(data[:-1]), take(data[-1:]), DONE)
        case.assertEqual((first, last[0], last[1], done), ((0, len(data) - 1, before), -1, 0, 0))
        case.assertEqual(before + last[2], made)
        case.assertEqual(ask_new(take(data + b"<"), DONE), [(-1, used, made), 0])
