"""What more than one module refuses."""

from handrack.errors import NoHook


def refuse_without_hook(hooks):
    # The number stays out of the words: Python refuses to write out very long numbers.
    if hooks < 1:
        raise NoHook("a rack has one hook at least")
