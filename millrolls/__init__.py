"""millrolls: rolls cut into ordered widths."""
