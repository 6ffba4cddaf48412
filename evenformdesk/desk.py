"""The calls on one text, as one list of whole numbers, and what they answer."""

from evenformdesk.text import Text

XM_CLEAR = 1
XM_TAKE = 2


def answers(calls):
    text = Text()
    given_back = []
    at = 0
    while at < len(calls):
        if calls[at] == XM_CLEAR:
            text = Text()
            answer = [0]
            at += 1
        elif calls[at] == XM_TAKE:
            end = at + 3 + calls[at + 2]
            answer = text.take(calls[at + 1], calls[at + 3:end])
            at = end
        else:
            answer = [1 if text.is_whole() else 0]
            at += 1
        given_back.append(len(answer))
        given_back.extend(answer)
    return given_back
