"""The language's calls: read and tokens."""

from madeimage.image import told_image
from madeimage.listing import told_tokens
from madeimage.making import make_module
from madeimage.program import Program
from madeimage.scanner import scan
from madeimage.stats import read_outline
from madeimage.wrong import Wrong

MOST_MODULES = 16
LONGEST_NAME = 32
LONGEST_TEXT = 65536


def is_module_name(name):
    if len(name) < 1 or len(name) > LONGEST_NAME:
        return False
    return all([33 <= byte and byte <= 126 for byte in name])


def are_modules(modules):
    """Whether the lists are names and texts by turns, as many as may be, and no two names alike."""
    count = len(modules) // 2
    if len(modules) != 2 * count or count < 1 or count > MOST_MODULES:
        return False
    names = [tuple(name) for name in modules[0::2]]
    if not all([is_module_name(name) for name in names]) or len(set(names)) < count:
        return False
    return all([len(text) <= LONGEST_TEXT for text in modules[1::2]])


def read_modules(program, texts):
    """Read all modules; answer what is wrong as read tells it, or None."""
    for number, text in enumerate(texts):
        try:
            program.outlines.append(read_outline(scan(text)))
        except Wrong as error:
            return [error.kind, number, error.line, error.column]
    return None


def make_modules(program):
    """Make all modules, which were read; answer what is wrong as read tells it, or None."""
    for number in range(len(program.names)):
        try:
            make_module(program, number)
        except Wrong as error:
            return [error.kind, number, error.line, error.column]
    if program.first_too_long is not None:
        return [6] + list(program.first_too_long)
    return None


def read(modules):
    """Answer 0 and the image's numbers; or the kind, module, line and column of what is wrong; or -8."""
    if not are_modules(modules):
        return [-8]
    program = Program([tuple(name) for name in modules[0::2]])
    refusal = read_modules(program, modules[1::2])
    if refusal is None:
        refusal = make_modules(program)
    if refusal is not None:
        return refusal
    image = told_image(program)
    if image is None:
        return [6, len(program.names) - 1, 1, 1]
    return [0] + image


def tokens(text):
    """Answer how many tokens there are and what is told of each; or -1, line and column of what can't be; or -8."""
    if len(text) > LONGEST_TEXT:
        return [-8]
    found = scan(text)
    last = found[-1]
    if last.kind == "bad":
        return [-1, last.line, last.column]
    return told_tokens(found)
