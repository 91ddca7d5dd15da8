"""Languages of one family: their words, sounds and the old sounds behind them."""
