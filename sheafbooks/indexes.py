"""The index of a book: where its entries stand."""

from sheafbooks.books import number_text, things_in_book


def index_of(book):
    """The triples (main, sub, numbers) of a book's entries, of each main with a bare sub, too."""
    found = {}
    for chapter, path, entry in things_in_book(book, "entry"):
        word, main, sub = entry
        found.setdefault((main, ""), [])
        numbers = found.setdefault((main, sub), [])
        number = number_text(chapter[1])
        if number not in numbers:
            numbers.append(number)
    return [(main, sub, found[(main, sub)]) for main, sub in sorted(found, key=place_in_index)]


def place_in_index(pair):
    """What mains and subs are put in order by: as if capitals were small, then by themselves."""
    main, sub = pair
    return main.lower(), main, sub.lower(), sub


def sees(book, main, sub=""):
    """The pairs (node, path) of a book's entries of just that main and sub, in order."""
    return [(chapter[0], path) for chapter, path, entry in things_in_book(book, "entry") if entry[1:] == (main, sub)]
