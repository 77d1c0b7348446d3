"""Two long rows of places, each place free or taken."""
