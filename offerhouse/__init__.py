"""Offerhouse: what each whole amount costs, and the cheapest split over sellers."""
