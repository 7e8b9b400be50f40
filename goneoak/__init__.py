"""A treasure told by paces: where it lies, and which landmarks a text needs."""
