"""Images: the threads of processors as words."""

from placedanyhow.coding import Words, decode, encode
from placedanyhow.compiling import compile_thread
from placedanyhow.errors import CodeError
from placedanyhow.threads import threads


def build_images(core, plan):
    """The list of the images of all processors of a plan."""
    rows = threads(core)
    found = []
    for p in range(plan.processors):
        here = [t for t in range(len(rows)) if plan.threads[t] == p]
        image = [len(here)]
        for t in here:
            image.extend(thread_words(t, rows[t]))
        found.append(image)
    return found


def thread_words(t, thread):
    """The words of a thread in the image of its processor."""
    parent, takes, gives, _ = thread
    places, code = compile_thread(thread)
    instructions = [word for instruction in code for word in encode(instruction)]
    found = [t, 0 if parent is None else parent + 1, places]
    for row in (takes, gives, instructions):
        found.append(len(row))
        found.extend(row)
    return found


def read_image(words):
    """The dict from the numbers of the threads of an image to the threads. Raises CodeError."""
    left = Words(words)
    found = {}
    for _ in range(left.take()):
        t = left.take()
        found[t] = take_thread(left)
    if left.is_left():
        raise CodeError(left.at)
    return found


def take_thread(left):
    """Takes a thread behind its number: (parent, places, takes, gives, code)."""
    parent = left.take()
    places = left.take()
    takes = take_counted(left)
    gives = take_counted(left)
    code = decode(take_counted(left))
    return (None if parent == 0 else parent - 1, places, takes, gives, code)


def take_counted(left):
    """Takes the number of some words, and these words."""
    return left.take_many(left.take())
