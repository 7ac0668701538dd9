"""The true settings of a book: those that a pass leaves the same."""

from truerefs.lengths import NOT_KNOWN
from truerefs.passes import next_setting
from truerefs.words import HOW_FAR, marks_told_of

MOST_COUNTING = 3
MOST_PAGES_ABOVE = 30


def words_that_count(words):
    """The numbers of the words on whose pages lengths depend."""
    told_of = marks_told_of(words)
    return [number for number, word in enumerate(words) if word.kind == HOW_FAR or word.own_mark in told_of]


def last_page_there_may_be(book):
    page = book.frame.first_page
    begins = list(book.openings)
    ends = begins[1:] + [len(book.words)]
    for begin, end in zip(begins, ends):
        full_pages = (end - begin + book.frame.high - 1) // book.frame.high
        page += full_pages + 1
    return page


def has_too_many_tries(book):
    pages_above = last_page_there_may_be(book) - book.frame.first_page
    return len(words_that_count(book.words)) > MOST_COUNTING or pages_above > MOST_PAGES_ABOVE


def rising_pages(first, last, many):
    """Each list of so many pages in which none is less than the one ahead of it."""
    rising = [[]]
    while len(rising[0]) < many:
        longer = []
        for pages in rising:
            least = max(pages, default=first)
            longer.extend([pages + [page] for page in range(least, last + 1)])
        rising = longer
    return rising


def setting_with(words, numbers, pages):
    """The setting in which only these words' pages are known."""
    setting = [NOT_KNOWN for word in words]
    for number, page in zip(numbers, pages):
        setting[number] = page
    return setting


def true_settings(book):
    # Lengths depend on no other pages than those of the words that count. So a setting that comes of a try of these
    # is true just if it has them as they were tried; and a later word never stands on an earlier page.
    counting = words_that_count(book.words)
    found = []
    for pages in rising_pages(book.frame.first_page, last_page_there_may_be(book), len(counting)):
        setting = next_setting(book, setting_with(book.words, counting, pages))
        if [setting[number] for number in counting] == pages:
            found.append(setting)
    return found


def first_setting(settings):
    """The one with the fewest pages, of several such the least by its first word's page, its second's, and so on."""
    return min(settings, key=lambda setting: (setting[-1:], setting))
