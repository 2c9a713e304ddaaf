"""Neighbours on a link: who has which address is asked, kept for a while, and asked again."""
