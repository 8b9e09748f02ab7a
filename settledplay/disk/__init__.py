"""The disk of the host, and the book that it writes there."""
