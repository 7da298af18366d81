"""Words and pieces, part by part."""

REST = ("cut", None, ())


def start(*parts, used=()):
    return (("start", None, used), *parts)


def take(lock, *used):
    return ("take", lock, used)


def give(lock, *used):
    return ("give", lock, used)


def cut(*used):
    return ("cut", None, used)
