"""Heedless: webs of small machines that don't heed the order of their letters."""
