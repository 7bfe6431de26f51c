"""Settings that the closest rules decide."""
