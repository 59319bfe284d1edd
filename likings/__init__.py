"""Factor models of a recommender system, trained in exact whole numbers."""
