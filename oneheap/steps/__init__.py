"""Steps: from a schema to the next one."""
