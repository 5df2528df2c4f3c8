"""Which pairs of records are looked at, in several passes."""
