"""Systems as values and as texts."""

from evenpatch.errors import InvalidSystem, InvalidText
from evenpatch.reader import Reader
from evenpatch.trees import is_system_form
from evenpatch.writer import system_lines


def is_tree(value):
    """Whether any value is a system, fair or not."""
    return is_system_form(value)


def read_system(text):
    """The system of which a string is a text."""
    if not isinstance(text, str):
        raise InvalidText(text)
    return Reader(text).take_system()


def write_system(system):
    """The text of a system."""
    if not is_tree(system):
        raise InvalidSystem(system)
    return "\n".join(system_lines(system))
