"""Two groups held against each other: what share lasts, and how sure that is, told in exact fractions."""
