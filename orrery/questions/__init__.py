"""Questions over time: their tokens, expressions and what these stand for."""
