"""Keys: what the keys of an editor mean, one behind another."""
