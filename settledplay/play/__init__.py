"""Steps and the plain meaning of rows."""
