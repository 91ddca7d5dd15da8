"""Trees of the languages.

A tree is a list of its nodes, each before its parts and the first part before the second: a
language's number, or JOINT for a node that has two parts.
"""

JOINT = -1

WRITTEN_LANGUAGE = 0
WRITTEN_JOINT = 1


def read_tree(row):
    """The tree that is written in the row."""
    tree = []
    at = 0
    while at < len(row):
        if row[at] == WRITTEN_JOINT:
            tree.append(JOINT)
            at = at + 1
        else:
            tree.append(row[at + 1])
            at = at + 2
    return tree


def write_tree(tree):
    """The row in which the tree is written."""
    row = []
    for node in tree:
        row.extend([WRITTEN_JOINT] if node == JOINT else [WRITTEN_LANGUAGE, node])
    return row


def has_each_once(tree, languages):
    """Whether the tree has each of so many languages, and each once."""
    return sorted([node for node in tree if node != JOINT]) == list(range(languages))


def end_of(tree, at):
    """Where the part of the tree that begins there has ended."""
    missing = 1
    while missing > 0:
        missing = missing + (1 if tree[at] == JOINT else -1)
        at = at + 1
    return at


def parts_of(tree, at):
    """Where both parts of the node begin; a language has none."""
    if tree[at] != JOINT:
        return []
    return [at + 1, end_of(tree, at + 1)]


def with_language(trees, language):
    """All trees that one of these becomes when the language is set beside one of its nodes."""
    grown = []
    for tree in trees:
        for at in range(len(tree)):
            end = end_of(tree, at)
            grown.append(tree[:at] + [JOINT] + tree[at:end] + [language] + tree[end:])
    return grown


def all_trees(languages):
    """All trees of so many languages, the part with the least language first."""
    trees = [[0]]
    # The least first: a language set behind a node then never has to change places with it.
    for language in range(1, languages):
        trees = with_language(trees, language)
    return trees
