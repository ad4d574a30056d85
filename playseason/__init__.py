"""A season: which bills, week by week, pay the sharers most."""
