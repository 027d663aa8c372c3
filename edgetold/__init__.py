"""A square of lines that carry a current, told from its edge."""
