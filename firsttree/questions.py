"""What is answered about a tree and the paths that are handed over."""

from firsttree.kinds import FILE, LINK, NOTHING


# 0 if the path has something of a kind that can answer.
def refusal_of(tree, path, fitting):
    kind = tree.kind_at(path)
    if kind == NOTHING:
        return -1
    if kind not in fitting:
        return -2
    return 0


def kind_answer(tree, path):
    return [0, tree.kind_at(path)]


def size_answer(tree, path):
    refusal = refusal_of(tree, path, (FILE, LINK))
    if refusal != 0:
        return [refusal]
    return [0, len(tree.data_at(path))]


def read_answer(tree, path, start, most):
    refusal = refusal_of(tree, path, (FILE, LINK))
    if refusal != 0:
        return [refusal]
    return [0] + list(tree.data_at(path)[start:start + most])


def same_answer(tree, path, other):
    number = tree.file_at(path)
    is_same = number != 0 and number == tree.file_at(other)
    return [0, 1 if is_same else 0]


def next_answer(tree, path):
    for other in tree.ordered_paths():
        if other > path:
            return [0] + list(other)
    return [-1]


def names_answer(tree, path):
    refusal = refusal_of(tree, path, (FILE,))
    if refusal != 0:
        return [refusal]
    answer = [0]
    for other in tree.paths_with(tree.file_at(path)):
        answer.append(len(other))
        answer.extend(other)
    return answer
