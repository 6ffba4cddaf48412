"""The one form: what goes out for text, values, tags and instructions."""

from evenformdesk.signs import codes

IN_TEXT = {38: "&amp;", 60: "&lt;", 62: "&gt;", 13: "&#13;"}
IN_VALUE = {38: "&amp;", 60: "&lt;", 34: "&quot;", 9: "&#9;", 10: "&#10;", 13: "&#13;"}


def text_form(row):
    return escape(row, dict(IN_TEXT))


def value_form(row):
    return escape(row, dict(IN_VALUE))


def escape(row, forms):
    made = []
    for byte in row:
        if byte in forms:
            made.extend(codes(forms[byte]))
        else:
            made.append(byte)
    return made


# attributes: each name, as a tuple of bytes, with the bytes that its value stands for.
def start_form(name, attributes):
    made = codes("<") + name
    for attribute in sorted(attributes):
        made.extend(codes(" "))
        made.extend(list(attribute))
        made.extend(codes("=\""))
        made.extend(value_form(attributes[attribute]))
        made.extend(codes("\""))
    return made + codes(">")


def end_form(name):
    return codes("</") + name + codes(">")


def instruction_form(name, rest):
    if not rest:
        return codes("<?") + name + codes("?>")
    return codes("<?") + name + codes(" ") + rest + codes("?>")
