"""Ownseen: houses that know nothing of one another, and deals over all of them."""
