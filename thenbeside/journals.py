"""Journals and records of books: what was done, carried out once more."""

from thenbeside.basics import is_size, require
from thenbeside.book import MOST_COMMANDS, Book, is_command
from thenbeside.errors import BadValue, NotPossible


def replayed(size, journal):
    """Return a book for so many tasks in which the commands of the journal have been carried out."""
    require(is_size(size), "size")
    require(isinstance(journal, tuple) and len(journal) <= MOST_COMMANDS, "journal")
    require(all(is_command(command, size) for command in journal), "journal")
    book = Book(size)
    for command in journal:
        book.act(command)
    return book


def are_right(size, records):
    """Tell whether the records are right for a new book for so many tasks."""
    book = Book(size)
    if not isinstance(records, tuple) or len(records) > MOST_COMMANDS:
        return False
    for record in records:
        if not isinstance(record, tuple) or len(record) != 2:
            return False
        command, answer = record
        if not is_carried_out(book, command) or not book.accepts(answer):
            return False
    return True


def is_carried_out(book, command):
    """Carry the command out; tell whether this was possible."""
    try:
        book.act(command)
    except (BadValue, NotPossible):
        return False
    return True
