"""Units for trips: how few units are enough for a day's trips, and why."""
