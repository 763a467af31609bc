"""Items of a problem set aside: they may come then, whatever their answer."""

from storejudge.problems import check_problem, marked


def aside(problem, numbers):
    check_problem(problem)
    return with_aside(problem, numbers)


def with_aside(problem, numbers):
    gone = marked(numbers)
    items = [set_aside(item) if x in gone else item for x, item in enumerate(problem[1])]
    apart = [triple for triple in problem[3] if triple[0] not in gone and triple[1] not in gone]
    return (problem[0], tuple(items), problem[2], tuple(apart))


def set_aside(item):
    return item if item[2] == "out" else (item[0], None, "may")
