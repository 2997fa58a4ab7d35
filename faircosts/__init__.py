"""What fairness costs: how much is gained at most, freely and by each kind of fairness."""
