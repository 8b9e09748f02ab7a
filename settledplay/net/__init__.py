"""Letters between machines, and the bag that has them."""
