"""Signs whose text goes round, known by glimpses."""
