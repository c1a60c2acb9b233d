"""Cases cited: which decisions of a land's courts stand, and which bind a court."""
