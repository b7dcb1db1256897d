"""Letters that come late, while desks are carried over to newer editions."""
