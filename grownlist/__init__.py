"""A list that can't be rewritten unseen."""
