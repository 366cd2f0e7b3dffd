"""Words of a text, in modes: see modedpieces.house.answers."""
