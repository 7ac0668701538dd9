"""The frame in which a book is set."""

MOST_WIDE = 200
MOST_HIGH = 100
MOST_FIRST_PAGE = 3000
MOST_PHRASE = 50


class Frame:
    """How lines and pages are measured, and how long the phrases of a reference by how far are."""

    def __init__(self, wide, high, first_page, here, next_page, before):
        self.wide = wide
        self.high = high
        self.first_page = first_page
        self.here = here
        self.next_page = next_page
        self.before = before


def first_frame():
    return Frame(60, 30, 1, 4, 16, 5)


def frame_of(numbers):
    return Frame(numbers[0], numbers[1], numbers[2], numbers[3], numbers[4], numbers[5])


def frame_is_allowed(frame):
    return (
        1 <= frame.wide <= MOST_WIDE
        and 1 <= frame.high <= MOST_HIGH
        and 1 <= frame.first_page <= MOST_FIRST_PAGE
        and 1 <= frame.here <= MOST_PHRASE
        and 1 <= frame.next_page <= MOST_PHRASE
        and 0 <= frame.before <= MOST_PHRASE
    )
