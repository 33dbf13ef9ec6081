"""Client policies for remote calls."""
