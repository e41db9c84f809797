"""Through which posts a run of letters can have gone."""
