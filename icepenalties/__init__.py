"""Ice hockey's penalties: icepenalties.games.answers(calls) answers the calls of one game."""
