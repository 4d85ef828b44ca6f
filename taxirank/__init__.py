"""A taximeter and a rank: see taxirank.meter."""
