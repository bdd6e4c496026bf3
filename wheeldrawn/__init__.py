"""A drawing wheel that rolls along a toothed ring: see wheeldrawn.ring."""
