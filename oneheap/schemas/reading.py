"""Schemas out of texts, and as texts."""

from oneheap.schemas.checking import check_kinds
from oneheap.schemas.grammar import read_kind
from oneheap.schemas.schema import Schema
from oneheap.words.reader import RESERVED, TokenReader
from oneheap.words.tokens import tokens

SCHEMA_SIGNS = ("{", "}", ":", ";", ",", "-", "..")
LONGEST_SCHEMA = 1000


def read_schema(text):
    """Return the schema of a text."""
    reader = TokenReader(tokens(text, SCHEMA_SIGNS, LONGEST_SCHEMA), RESERVED)
    drafts = [read_kind(reader)]
    while not reader.at_end():
        drafts.append(read_kind(reader))
    check_kinds(drafts)
    return Schema([draft.built() for draft in drafts])


def write_schema(schema):
    """Return a schema as text."""
    return schema.written()
