"""Which rows of parts are let, and how many of each number."""
