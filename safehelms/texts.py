"""Texts of controllers, there and back."""

from safehelms.controllers import check_controller, is_controller
from safehelms.errors import InvalidController, InvalidText
from safehelms.reading import read_controller
from safehelms.shapes import is_plain_name


def is_name(value):
    """Whether a value, whatever it is, is a name."""
    return is_plain_name(value)


def text_of(controller):
    """The controller's text."""
    check_controller(controller)
    width, inputs, keeps, out, phases = controller
    signs = ["word", width]
    for one in inputs:
        signs.extend(("in",) + one)
    for one in keeps:
        signs.extend(("keep",) + one)
    signs.extend(("out",) + out)
    for name, block in phases:
        signs.extend(["phase", name] + signs_of_block(block) + ["end"])
    return " ".join([str(sign) for sign in signs])


def signs_of_block(block):
    """The list of the signs of the block's statements."""
    signs = []
    for statement in block:
        if statement[0] == "if":
            signs.extend(["if"] + signs_of(statement[1]) + signs_of_block(statement[2]))
            if statement[3] != ():
                signs.extend(["else"] + signs_of_block(statement[3]))
            signs.append("end")
        else:
            signs.extend(signs_of(statement))
    return signs


def signs_of(value):
    """The list of the signs of a sum, a condition or a statement without blocks: its word, then its parts."""
    if not isinstance(value, tuple):
        return [value]
    signs = []
    for part in value:
        signs.extend(signs_of(part))
    return signs


def controller_of(text):
    """The controller of the text."""
    if not isinstance(text, str):
        raise InvalidText(None)
    told = read_controller([sign for sign in text.split(" ") if sign != ""])
    if not is_controller(told):
        raise InvalidController(told)
    return told
