"""A place that swallows: in which order to look into the places of a net."""
