"""Games as data, and the runs of their entries."""
