"""A desk that makes cards: see doorcards.desk."""
