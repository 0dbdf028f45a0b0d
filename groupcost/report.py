"""Answers and papers in words, the report on a page, and a report judged beside a page."""

from groupcost.errors import BadAsk, BadPaper, BadText, NotFalling, NotRising
from groupcost.examiner import answered, shown
from groupcost.forms import answer_forms, paper_forms
from groupcost.reading import ask_of, read_page
from groupcost.words import parts_words, take_parts, take_word


def answer_text(page, ask, answer):
    """The row of an answer to an ask."""
    forms = answer_forms(ask[0])
    # An answer of one part is that part itself.
    parts = [answer] if len(forms) == 1 else answer
    return " ".join(parts_words(page.names, forms, parts))


def paper_text(page, paper):
    """The row of a paper, or of None."""
    if paper is None:
        return "none"
    return " ".join([paper[0]] + parts_words(page.names, paper_forms(paper[0]), paper[1:]))


def read_answer(page, ask, row):
    """The answer to an ask that a row writes."""
    parts = take_parts(page.names, answer_forms(ask[0]), row.split(" "))
    return parts[0] if len(parts) == 1 else tuple(parts)


def read_paper(page, row):
    """The paper that a row writes, or None."""
    if row == "none":
        return None
    words = row.split(" ")
    kind = take_word(words)
    forms = paper_forms(kind)
    if forms is None:
        raise BadPaper("there is no such paper")
    return tuple([kind] + take_parts(page.names, forms, words))


def told_of(ask):
    """The answer to an ask and its paper, or None where the ask is refused."""
    try:
        return answered(ask)
    except (NotFalling, NotRising):
        return None


def report_row(page, words, ask):
    """The row of a report on an ask of a page."""
    told = told_of(ask)
    if told is None:
        return f"{words} > refused ; none"
    answer = answer_text(page, ask, told[0])
    paper = paper_text(page, told[1])
    return f"{words} > {answer} ; {paper}"


def report(text):
    """The report on a page: a row for each of its asks."""
    page = read_page(text)
    return "\n".join([report_row(page, words, ask) for words, ask in page.asks])


def judged_row(page, row):
    """What is told of a row of a report beside a page."""
    # Where a sign that parts is lacking, the text behind it is empty, which is no answer and no paper.
    halves = row.partition(" > ")
    ask = ask_of(page, halves[0])
    told = halves[2].partition(" ; ")
    paper = read_paper(page, told[2])
    if told[0] == "refused":
        return "refused" if paper is None and told_of(ask) is None else "not shown"
    return "shown" if shown(ask, read_answer(page, ask, told[0]), paper) else "not shown"


def judged(text, rows):
    """What is told of each row of a report beside a page."""
    page = read_page(text)
    if rows == "":
        return []
    judgements = []
    for number, row in enumerate(rows.split("\n"), start=1):
        try:
            judgements.append(judged_row(page, row))
        except (BadAsk, BadPaper):
            raise BadText("the row is none of a report", number) from None
    return judgements
