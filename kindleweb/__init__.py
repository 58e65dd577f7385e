"""Kindleweb: hearths that kindle where so many neighbours burn."""
