"""Light curve analysis."""
