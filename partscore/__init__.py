"""Parts and score: players' parts drawn out of a score."""
