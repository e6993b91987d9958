"""Books compared, rules that are never called, and due days behind one another."""

from diesnon.allcases import filled_history, question_of
from diesnon.decide import decide, decide_picture, question_picture
from diesnon.errors import Missing, NotAllowed
from diesnon.extremes import greatest
from diesnon.plain import Forms, conjunction


def names_of_rules(book):
    """The list of the names of the rules of a book, in order."""
    return [rule[0] for rule in book[2]]


def check_comparable(book, other):
    """Raises NotAllowed if the books are not comparable."""
    same_rules = sorted(names_of_rules(book)) == sorted(names_of_rules(other))
    if book[0] != other[0] or book[1] != other[1] or not same_rules:
        raise NotAllowed("the books are not comparable")


def check_rule_name(book, name):
    """Raises Missing if no rule of the book has the name."""
    if name not in names_of_rules(book):
        raise Missing(name)


def both_or_none(a, b):
    """The condition that both conditions hold, or none of them."""
    return "or", ("and", a, b), ("and", ("not", a), ("not", b))


def likeness(book, other, name):
    """The question whose claim is that the rule with the name comes out the same in both books."""
    check_comparable(book, other)
    check_rule_name(book, name)
    one, two = Forms(book), Forms(other)
    called, due = one.called_forms[name], one.due_forms[name]
    other_due = two.due_forms[name]
    same_day = ("and", ("le", due, other_due), ("le", other_due, due))
    return book[0], (), conjunction([
        both_or_none(called, two.called_forms[name]),
        ("or", ("not", called), same_day),
        both_or_none(one.missed_forms[name], two.missed_forms[name]),
    ])


def alike(book, other):
    """Papers that the books are alike, or a rule and a history in which it comes out differently."""
    # All pictures are drawn first: whether one is too large does not depend on what others tell.
    pictures = [(name, question_picture(likeness(book, other, name))) for name in names_of_rules(book)]
    papers = []
    for name, (made, rows) in pictures:
        word, told = decide_picture(book[0], made, rows)
        if word == "world":
            return "apart", name, filled_history(book, told)
        papers.append((name, told))
    return "alike", tuple(papers)


def never_called(book):
    """The list of the names of the rules that are not called in any history."""
    return [name for name in names_of_rules(book)
            if decide(question_of(book, (), ("not", ("called", name))))[0] == "paper"]


def latest_behind(book, assumptions, name, other):
    """The greatest number of days by which the due day of one rule is behind that of another one."""
    for asked in (name, other):
        check_rule_name(book, asked)
    forms = Forms(book)
    conditions = [*[forms.plain(condition) for condition in assumptions],
                  forms.called_forms[name], forms.called_forms[other]]
    told = greatest(book[0], tuple(conditions), forms.due_forms[name], forms.due_forms[other])
    if told[0] == "endless":
        return told
    return "most", told[1], filled_history(book, told[2])
