"""Answers of calls, and their kinds."""

ANSWER_KINDS = ("yes", "no", "none", "is", "at", "misuse")


def is_answer_kind(value):
    """Whether any value is a kind of answers."""
    return isinstance(value, str) and value in ANSWER_KINDS


def kind_of_answer(answer):
    """The kind of an answer."""
    if answer is None:
        return "none"
    return answer if isinstance(answer, str) else answer[0]
