"""bondhall: walls and sites. The calls are in wallbonds.sites."""
