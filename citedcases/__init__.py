"""Cases cited: which decisions of a land's courts stand, which bind a court, and what they force on a case."""
