"""The machines: the host, the others, and how one comes late."""
