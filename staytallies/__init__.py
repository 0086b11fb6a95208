"""Staytallies: tallies of small machines that stay in bounds."""
