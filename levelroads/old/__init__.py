"""What a level has from the levels that divide it, and what is new."""
