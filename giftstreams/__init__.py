"""Giftstreams: rows of gifts that are drawn only when somebody asks."""
