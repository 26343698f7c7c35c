"""finecloud: clouds of points told bit by bit."""
