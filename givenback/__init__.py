"""Given back with more: how likely it is what an urn gives, whose balls go back with more of their colour."""
