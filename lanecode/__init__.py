"""Lane code: programs for rows of lanes, told as bytes or as a text, and judged."""
