"""Who hears whom in joined conferences."""
