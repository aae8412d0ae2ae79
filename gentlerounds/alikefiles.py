"""Which rule files are alike for all crawlers, told by the names that matter."""

from gentlerounds.decisions import are_alike_paths, parting_path
from gentlerounds.files import ANYONE, check_file, paths_of, rules_of
from gentlerounds.names import LETTERS, check_name
from gentlerounds.sharing import are_alike_rules, loose_row


def names_told(file, other):
    """Return all names of both files, in any order, each once."""
    check_file(file)
    check_file(other)
    return list({name: True for group in file + other for name in group[0] if name != ANYONE})


def free_letter(names):
    """Return the first letter that begins none of the names."""
    # Both files together have at most 24 names, so a letter is always left.
    return [letter for letter in LETTERS if not any(name.startswith(letter) for name in names)][0]


def names_that_matter(file, other):
    """Return the ascending tuple of all names of both files and the first letter that begins none of them."""
    names = names_told(file, other)
    return tuple(sorted(names + [free_letter(names)]))


def led_as(file, other, crawler):
    """Return the name that matters which stands for the crawler in both files."""
    names = names_told(file, other)
    check_name(crawler)
    beginnings = [name for name in names if crawler.startswith(name)]
    return max(beginnings, key=len, default=free_letter(names))


def parted_names(file, other):
    """Return the ascending tuple of the names that matter that both files do not treat alike."""
    return tuple([name for name in names_that_matter(file, other) if not are_alike_for(file, other, name)])


def are_alike_for(file, other, crawler):
    """Tell whether both files bar the same paths for the crawler and let the same asks."""
    if not are_alike_paths(paths_of(file, crawler), paths_of(other, crawler)):
        return False
    return are_alike_rules(rules_of(file, crawler), rules_of(other, crawler))


def are_alike_files(file, other):
    """Tell whether both files bar the same paths and let the same asks for every crawler."""
    return not parted_names(file, other)


def parting(file, other):
    """Return a crawler that both files do not treat alike, and a path or asks that show it; None for alike files."""
    names = parted_names(file, other)
    if not names:
        return None
    path = parting_path(paths_of(file, names[0]), paths_of(other, names[0]))
    if path is not None:
        return names[0], path
    return names[0], parting_asks(rules_of(file, names[0]), rules_of(other, names[0]))


def parting_asks(rules, other):
    """Return asks that are polite by just one of both; None if there are none."""
    asks = loose_row(rules, other)
    return loose_row(other, rules) if asks is None else asks
