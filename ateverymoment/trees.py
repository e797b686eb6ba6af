"""Trees: the answer to a question together with the answers of all nodes under it.

A tree is a pair (answer, trees of the parts). Trees are never changed. So the trees after a list of deeds can be
made beside those before it, and are simply forgotten if the list raises an error.
"""

from ateverymoment.answering import node_answer
from ateverymoment.questions import parts_of


def tree_of(cycle, told, question):
    """Return the tree of a valid question for a list of facts (name, row, table)."""
    trees = tuple([tree_of(cycle, told, part) for part in parts_of(question)])
    return node_answer(cycle, told, question, answers_in(trees)), trees


def answers_in(trees):
    """Return a list of the answers of the trees."""
    return [answer for answer, _ in trees]


def renewed_tree(tree, told, question, changes):
    """Return the tree for other facts. The changes (name, row, span) tell all that differs from those before."""
    answer, trees = tree
    if question[0] == "fact":
        if all([name != question[1] for name, _, _ in changes]):
            return tree
        return tree_of(answer[0], told, question)
    renewed = tuple([renewed_tree(one, told, part, changes) for one, part in zip(trees, parts_of(question))])
    if answers_in(renewed) != answers_in(trees):
        answer = node_answer(answer[0], told, question, answers_in(renewed))
    return answer, renewed
