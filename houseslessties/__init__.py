"""Houses that meet in pairs, and books that count each deed once."""
