"""Papers about deeds and courses, and what of them is there as known on a day.

A paper is a tuple: ("strike", number, known), ("restore", number, known),
("measure", course, since, till, known) or ("uphold", course, known).
"""


def is_known(since, known):
    """Tell whether what is known from a day on is there as known on a day; None stands for all days."""
    return known is None or since <= known


def papers_known(papers, known):
    """Tell the list of the papers that are there, in the order in which they are taken."""
    there = [paper for paper in papers if is_known(paper[-1], known)]
    # sorted leaves those of one day as they were told.
    return sorted(there, key=lambda paper: paper[-1])


def struck_numbers(papers):
    """Tell a dict of the numbers that papers strike or restore: True where the last of them strikes."""
    struck = {}
    for paper in papers:
        if paper[0] in ("strike", "restore"):
            struck[paper[1]] = paper[0] == "strike"
    return struck


def measured_spans(papers):
    """Tell a dict of courses: for each the list of (since, till) of the measurings that count."""
    spans = {}
    for paper in papers:
        if paper[0] == "measure":
            spans[paper[1]] = spans.get(paper[1], []) + [(paper[2], paper[3])]
        elif paper[0] == "uphold":
            spans[paper[1]] = []
    return spans


def is_within(day, spans):
    """Tell whether a day is in one of the spans, the first and the last day of each counted in."""
    return any([since <= day <= till for since, till in spans])
