"""The inspector: functions that look at a mapper."""

from oneheap.mapper.ending import check_at_an_end, neighbour_of
from oneheap.mapper.script import told_copy
from oneheap.objects.constraints import constraints_against
from oneheap.queries.plans import plan_text
from oneheap.schemas.reading import write_schema
from oneheap.steps.step import write_step
from oneheap.views.carry import first_elder_thing, first_thing
from oneheap.views.losses import losing

MOST_TOLD = 20


def version_rows(mapper):
    """Return for each living version its number, whether it is shut, and how many objects it has and holds."""
    ground = mapper.ground
    places = list(ground.present().places.values())
    found = []
    for version in ground.line.versions:
        number = version.number
        found.append((number, version.shut, len(ground.picture_now(number)), places.count(number)))
    return found


def schema_text(mapper, version):
    """Return the schema of a version as text."""
    return write_schema(mapper.ground.version_of(version).schema)


def step_text(mapper, version):
    """Return the step that leads to a version as text, or None for the first one."""
    step = mapper.ground.version_of(version).step
    return None if step is None else write_step(step)


def losing_of(mapper, version):
    """Return the losses of the step that leads to a version."""
    step = mapper.ground.version_of(version).step
    return [] if step is None else losing(step)


def would_lose(mapper, version):
    """Return the least objects of a version at an end of the line that do not come back from its neighbour."""
    ground = mapper.ground
    place = ground.place_of(version)
    check_at_an_end(ground.line, place)
    near = ground.picture_now(neighbour_of(ground.line, place).number)
    picture = ground.picture_now(version)
    found = []
    for number in sorted(picture):
        if number not in near or told_at_first(ground.line, place, near[number]) != picture[number]:
            found.append(number)
    return found[:MOST_TOLD]


def told_at_first(line, place, thing):
    """Return what is told at first, in the version with an index at an end of the line, of a thing of its neighbour."""
    if place == 0:
        return first_elder_thing(line.versions[1].step, thing)
    return first_thing(line.versions[place].step, thing)


def against(mapper, version):
    """Return the first pairs of an object of a version and a constraint that stands against it."""
    schema = mapper.ground.version_of(version).schema
    picture = mapper.ground.picture_now(version)
    found = []
    for number in sorted(picture):
        found.extend([(number, text) for text in constraints_against(schema, picture, number)])
    return found[:MOST_TOLD]


def table_rows(mapper, name):
    """Return the pairs of a number and the cells of the rows of now of a table, the least number first."""
    rows = mapper.ground.present().rows
    return [(row.number, told_copy(row.cells)) for row in rows if row.table == name]


def transaction(mapper):
    """Return what wrote the last transaction, the number of its session or None, and its statements; or None."""
    return told_copy(mapper.ground.last_written)


def take_requests(mapper):
    """Return the last requests that the sessions made since this was called last."""
    ground = mapper.ground
    found = ground.requests
    ground.requests = []
    return found


def plan_of_query(mapper, version, text):
    """Return the plan of a query as a text."""
    return plan_text(mapper.ground.version_of(version).schema, text)


def why(mapper, number):
    """Return what refused the last flush, refresh or rebase of a session, or None."""
    session = mapper.ground.sessions.get(number)
    return None if session is None else told_copy(session.refused)
